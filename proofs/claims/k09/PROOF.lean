import PyProof.Rows.All
import Wide.All
import OpenK.AllK
import Wide.FinOn
import HandS.ForMost
import HandS.ForExc
import HandS.EndBits
import KE.GoesEnumKw
import HandS.Walk
import HandS.IsInst
import HandS.ExcInit
import HandS.ExcIs
import HandS.ExcField
import HandS.ExcOwn
import HandS.ExcValue
import PyProof.ReprRoads
import PyProof.RowDictHeap
import PyProof.CallFns
import PyProof.FString2
import HandS.FStr
import KE.KStateDown
import HandS.Defaults
import HandS.Head0
import HandS.Head1
import HandS.Head2
import HandS.HeadHook1
import HandS.HeadHook2
import HandS.Zip
import HandS.Rev
import HandS.TupAny
import HandS.More
import HandS.Strs
import HandS.SetTxtIn
import HandS.Lambda
import HandS.Style
import HandS.Set
import HandS.SetFor
import PyProof.Rows.SortShellAny
import HandS.DictComp
import PyProof.StrLawsRepr
import PyProof.EnumMake
import HandS.Text
import HandS.TupLe
import HandS.WordsExc
import KE.KNestM
import HandS.HeadHook3
import HandS.HeadHook4
import Wide.Once
import PySem.Challenge.RW_anymaker_k09_expressions_programs_and_pl
set_option Elab.async false
set_option linter.all false
set_option maxRecDepth 100000
set_option maxHeartbeats 4000000
/-! Defs whose promise holds where no repr is under way (repr looks at what is under way). -/
namespace Any
open PySem PySem.Spec PyProof.Rows L2
/-- nothing that repr guards against is under way -/
def Clr (A : Around) : Prop := A.guards = some []
theorem Clr.deep {A : Around} (c : Clr A) (env : Env) : Clr (A.deeper env) := c
theorem Clr.one {A : Around} (c : Clr A) : Clr A.in1 := c
theorem Clr.made {A : Around} (c : Clr A) (C : Addr) (us : List Value) : Clr (A.under (.builtin "type.__call__" ⟨.ref C :: us, []⟩)) := by
  unfold Clr at *
  first
    | exact c
    | (simp [Around.under, Code.guards, Code.isGuard, guardIds, pushGuards]; exact c)
/-- as FnOk, where nothing is under way -/
structure FnG (P : Program) (w : World) (K : PySem.W.Frag) (mg : Str → Option Value) (base : Heap) (CX : CXT) (k : Nat) (f : Addr) (fd : FuncData) (ps : List Str) (sp : Sp) : Prop where
  len : ∀ vs H Q E, sp vs H Q E → vs.length = ps.length
  go : ∀ (A : Around) (out : List Env) (s : Shared) (H : Hp) (args : Args) (us : List Value) (vs : List V) (Q : VK) (E : XK), Clr A → Room k A → Env0 P w K mg base A out s H → BindsTo s fd args (ps.zip us) → Vals vs us → sp vs H Q E →
    codeAny (model P w) A (.call (.ref f) args) (CR CX out P w H s Q E) s
section
variable {P : Program} {w : World} {K : PySem.W.Frag} {mg : Str → Option Value} {base : Heap} {CX : CXT} {k : Nat} {f : Addr} {fd : FuncData} {ps : List Str} {sp : Sp}
theorem FnG.of (F : FnOk P w K mg base CX k f fd ps sp) : FnG P w K mg base CX k f fd ps sp := ⟨F.len, fun A out s H args us vs Q E _ r e b v q => F.run A out s H args us vs Q E r e b v q⟩
/-- a def by its body, which may lean on nothing being under way -/
theorem okG {x q : Str} {st : Stmt} {N : List Str} (F : Fun K x q st f fd) (S : FnScope N ps (defScope st)) (len : ∀ vs H Q E, sp vs H Q E → vs.length = ps.length)
    (body : ∀ (cdv : Value) (A : Around) (out : List Env) (s : Shared) (H : Hp) (vs : List V) (Q : VK) (E : XK), Clr (A.deeper (envOfC q (defScope st) s.heap.objs.size f cdv)) → Room k (A.deeper (envOfC q (defScope st) s.heap.objs.size f cdv)) → sp vs H Q E →
      ∃ t, PSs (cxOf CX P w K mg base N q (defScope st) f cdv A out s H E).nox (defBody st) t ∧ t { nx := fun _ H' => Q .non H', rt := Q } (start N vs) H) : FnG P w K mg base CX (k + 1) f fd ps sp := by
  obtain ⟨oc, od, kV, doc, pm, an, cdv, ct, osl, rfl, lk, hcd⟩ := F.ex
  refine ⟨len, fun A out s H args us vs Q E cl hr e0 hb r hsp => ?_⟩
  have hl := len _ _ _ _ hsp
  have sub : ∀ b o, base.get? b = some o → s.heap.get? b = some o := fun b o e => (e0.bs b o e).1
  have KX : K.In s.heap := e0.mod.kin.keeps sub
  refine codeAny_call_function hr.depth (KX _ _ lk) rfl S.co S.gen rfl (PySem.W.codeRec_of KX hcd) (hb _ _ _ _ (wpAny_newFunctionEnv_cells S.kind (fun y hy => ?_) fun env he s1 x => ?_))
  · rcases S.par y.1 (List.of_mem_zip (show (y.1, y.2) ∈ ps.zip us from hy)).1 with z | z
    · exact .inl z
    · exact .inr ⟨z, PySem.W.cellsFrom_some _ _ _ (.inl z)⟩
  · subst he
    refine ⟨e0.mod.nolimit.keeps fun b o e => x.toInCall.keep b o (sub b o e), codeAny_func ?_⟩
    obtain ⟨t, ht, q⟩ := body cdv A out s H vs Q E (cl.deep _) (hr.deeper _) hsp
    replace ht := ht.nox
    refine wpAny_mono (ht.run [] s1 (start N vs) H _ (inv_start S hr.hd e0 hl r x) q) (fun fl s' z => ?_) fun _ _ z => z
    cases fl with
    | ret u =>
      obtain ⟨v, σ', H', J, rv, q⟩ := z
      exact ⟨v, H', J.os, J.bare, J.base, J.hok, rv, q⟩
    | next =>
      obtain ⟨σ', H', J, q⟩ := z
      exact ⟨V.non, H', J.os, J.bare, J.base, J.hok, rfl, q⟩
    | brk => exact z.elim fun _ z => z.elim fun _ z => z.2.elim
    | cont => exact z.elim fun _ z => z.elim fun _ z => z.2.elim
end
section
variable {X : Cx} {CX : CXT} {k : Nat} {f : Addr} {fd : FuncData} {ps : List Str} {sp : Sp} {dvs : List V} {ds : List Value} {E : XK} {x : Str} {p pos : Pos} {e : Expr} {es : List Expr} {t : TA}
theorem runG {pins : List (Addr × Obj)} {σ : L2.St} {H : Hp} {s : Shared} {Q : VK} {us : List Value} {vs : List V} (F : FnG X.prog X.w X.K X.mg X.base CX k f fd ps sp) (cl : Clr X.A) (hr : Room k X.A) (hb : Binds X.K fd ps ds) (hd : Vals dvs ds) (hx : Passes CX X E)
    (I : Inv X pins σ H s) (r : Vals vs us) (h : sp (vs ++ dvs) H Q E) : wpAny (model X.prog X.w) X.A (call (.ref f) us) (EP X pins σ Q) X.xe s := by
  have r2 := r.append hd
  refine wpAny_call (codeAny_mono (F.go X.A X.stack s H ⟨us, []⟩ (us ++ ds) (vs ++ dvs) Q E cl hr I.env0 (hb s us I.kIn (r2.length.symm.trans (F.len _ _ _ _ h))) r2 h) fun r s' z => ?_)
  match r, z with
  | .error e, z => exact hx pins σ H s e s' I z
  | .ok (.ret u), z => exact I.after z
/-- f(e, ..) -/
theorem pe_callG (F : FnG X.prog X.w X.K X.mg X.base CX k f fd ps sp) (cl : Clr X.A) (hr : Room k X.A) (hg : Gl X x) (hm : X.mg x = some (.ref f)) (hk : PySem.W.keepIn X.K (.ref f) = true) (hb : Binds X.K fd ps ds) (hd : Vals dvs ds) (hx : Passes CX X E)
    (ha : PA X (e :: es) t) (hdb : (x == ("__debug__" : Str)) = false := by decide) (he : starEach (e :: es) X.env = (false, eval e X.env) :: starEach es X.env := by rfl) (hpl : (backTo pos (starEach es X.env)).any (·.1) = false := by rfl) :
    PE X (.Call (.Name x p) (e :: es) [] pos) (tCall sp dvs E t) :=
  ⟨fun pins s σ H Q I h => wpAny_Call_Name_kw (ld_glob I hg hm (PySem.W.callWith_K (h₀ := X.base) I.ok.mod.kin hk
    (thn (ha.run pos pins s σ H _ I h) fun us s1 ⟨vs, H1, I1, r, q⟩ => ⟨I1.kIn, runG F cl hr hb hd hx I1 r q⟩) he hpl) hdb)⟩
/-- f() -/
theorem pe_callG0 (F : FnG X.prog X.w X.K X.mg X.base CX k f fd ps sp) (cl : Clr X.A) (hr : Room k X.A) (hg : Gl X x) (hm : X.mg x = some (.ref f)) (hk : PySem.W.keepIn X.K (.ref f) = true) (hb : Binds X.K fd ps ds) (hd : Vals dvs ds) (hx : Passes CX X E)
    (hdb : (x == ("__debug__" : Str)) = false := by decide) : PE X (.Call (.Name x p) [] [] pos) (tCall sp dvs E tNil) :=
  ⟨fun pins s σ H Q I h => wpAny_Call_Name_kw (ld_glob I hg hm (PySem.W.callWith_K0 I.kIn hk (runG (us := []) F cl hr hb hd hx I .nil h)) hdb)⟩
end
/-! ### the law's own call: nothing is under way -/
theorem clr_caller : Clr callerA := rfl
section
variable {P : Program} {w : World} {K : PySem.W.Frag} {mg mb : Str → Option Value} {k : Nat} {fa a : Addr} {fd : FuncData} {x : Str} {sp : Sp} {s₁ : Shared} {vs : List Value} {ns : List Int}
/-- from one abstract heap H that tracks the script at most -/
theorem law_at (KX : K.In s₁.heap) (hns : s₁.heap.Ns mainGlobals mg) (hb : s₁.heap.Ns builtinsNs mb) (hbb : ∀ x : Str, x ≠ "__name__" → mb x = bootBuiltins x) (hlim : s₁.heap.NoLimit) (hg : s₁.gens = #[])
    (ha : s₁.heap.get? a = some { cls := .type "list", data := .seq vs.toArray }) (hr : Room k callerA) (F : ∀ base : Heap, K.In base → base.Ns mainGlobals mg → FnG P w K mg base CX0 k fa fd [x] sp)
    (hbind : ∀ (s : Shared) (u : Value), BindsTo s fd ⟨[u], []⟩ [(x, u)]) {H : Hp} (hO : Only H) (hok : HOk P w H s₁.heap) (hA : ∀ b, H b ≠ none → b = a) (hK : H a ≠ none → K.lookup a = none)
    (hsp : sp [.ref a] H (fun v _ => v = .bl true) fun _ _ _ => False) :
    codeAny (model P w) callerA (.call (.ref fa) ⟨[.ref a], []⟩) (fun r s' => r = .ok (.ret (.bool true)) ∧ OldK s₁.heap s'.heap ∧ s'.os = s₁.os ∧ AllBare s'.gens) s₁ := by
  have trk : ∀ b, H b = none ∨ b = a := fun b => by
    cases q : H b with
    | none => exact .inl rfl
    | some u => exact .inr (hA b fun z => by rw [q] at z; cases z)
  have hid : ∀ {b : Addr} {o : Obj}, s₁.heap.get? b = some o → H b = none → (hidT s₁.heap H).get? b = some o := fun e n => hidT_get e n
  -- a dict is not the script
  have nd : ∀ {b : Addr} {o : Obj} {es : Array DictEntry} {ep : Nat}, s₁.heap.get? b = some o → o.data = .dict es ep → H b = none := fun {b o es ep} e d => by
    rcases trk b with z | rfl
    · exact z
    · rw [ha] at e
      cases e
      cases d
  have nsH : ∀ {b : Addr} {m : Str → Option Value}, s₁.heap.Ns b m → (hidT s₁.heap H).Ns b m := fun ⟨o, es, ep, e, d, r⟩ => ⟨o, es, ep, hid e (nd e d), d, r⟩
  have kH : K.In (hidT s₁.heap H) := fun b o e => hid (KX b o e) (by
    rcases trk b with z | rfl
    · exact z
    · cases q : H b with
      | none => rfl
      | some u =>
        rw [hK fun z => by rw [q] at z; cases z] at e
        cases e)
  obtain ⟨mc, l1, l2⟩ := hlim
  have e0 : Env0 P w K mg (hidT s₁.heap H) callerA [] s₁ H :=
    ⟨rfl, ⟨kH, nsH hns, ⟨mb, nsH hb, hbb⟩, mc, nsH l1, l2⟩, fun b o e => of_hidT e, Nat.le_of_eq (hidT_size _ _), True.intro, fun b z => absurd (show b ∈ ([] : List Addr) from z) List.not_mem_nil, hok, .of_eq hg⟩
  refine codeAny_mono ((F _ kH (nsH hns)).go callerA [] s₁ H ⟨[.ref a], []⟩ [.ref a] [.ref a] _ _ clr_caller hr e0 (hbind s₁ (.ref a)) (.cons rfl .nil) hsp) fun r s' z => ?_
  match r, z with
  | .error e, z => exact z.elim
  | .ok (.ret u), ⟨v, H', os, bare, un, hok', rv, q⟩ =>
    have q' : v = .bl true := q
    subst q'
    cases (show u = Value.bool true from rv)
    refine ⟨rfl, OldK.of_keep fun b o e => ?_, os, bare⟩
    cases q : H b with
    | none => exact un.keep b o e q (fun z => absurd (show b ∈ ([] : List Addr) from z) List.not_mem_nil) List.not_mem_nil
    | some u =>
      rcases hO b with z | ⟨ob, xs, z⟩
      · rw [q] at z
        cases z
      · obtain ⟨e1, _⟩ := hok b _ z
        obtain ⟨e2, _⟩ := hok' b _ (un.frzs b ob _ z)
        rw [e] at e1
        cases e1
        exact e2
end
/-- the goal that a head leaves -/
theorem walkG {l : PySem.W.OpenLaw} {n k : Nat} {q : Program} {loose : List Str} {XP : (Str → Option Value) → Heap → Prop} {YP : World → Heap → Prop} {d : DefRec} {x : Str} (hn : l.most = some n) (hn2 : n ≤ sizeLine) (hdf : d.params.defaults = []) (hr : Room k callerA)
    (F : ∀ (w : World) (mg : Str → Option Value) (fa : Addr) (h : Heap), YP w h → h.Ns mainGlobals mg → mg d.name = some (.ref fa) →
      ∃ (K : PySem.W.Frag) (fd : FuncData) (sp : Sp), K.In h ∧ (∀ (s : Shared) (u : Value), BindsTo s fd ⟨[u], []⟩ [(x, u)]) ∧
        (∀ (H : Hp) (a : Addr) (ns : List Int), ns.length ≤ n → (∀ z ∈ ns, Builtin.Int.intBits z ≤ 1048576) → Only H → SqL K H a (ns.map V.int) → sp [.ref a] H (fun v _ => v = .bl true) fun _ _ _ => False) ∧
        ∀ base : Heap, K.In base → base.Ns mainGlobals mg → FnG l.prog w K mg base CX0 k fa fd [x] sp) :
    PySem.W.WalkO q loose XP YP l.row.toRowW d [] (fun f vs => PySem.call f vs) := by
  refine Att.attach_callB hn hdf fun w s₀ s₁ mg mb fa o pm cd doc a vs ns G Y ho hd hcd hmg hobj hints hlen hbits hg => ?_
  obtain ⟨K, fd, sp, KX, hb, hsp, hF⟩ := F w mg fa _ Y G.T.g hmg
  have rv := vals_ints hints
  have lv := hints.length
  cases e : K.lookup a with
  | some o =>
    have e1 := KX a o e
    rw [hobj] at e1
    cases e1
    exact law_at KX G.T.g G.T.b G.T.builtins G.T.nolimit hg hobj hr hF hb (H := fun _ => none) (fun _ => .inl rfl) (fun b u z => nomatch (show (none : Option HO) = some u from z)) (fun b z => absurd rfl z) (fun z => absurd rfl z)
      (hsp _ a ns hlen hbits (fun _ => .inl rfl) (.inr ⟨_, vs.toArray, _, e, rfl, rfl, rfl, by rw [List.size_toArray, lv]; exact Nat.le_trans hlen hn2, by simpa using rv⟩))
  | none =>
    have hO : Only fun b => if b = a then some (.frz { cls := .type "list", data := .seq vs.toArray } (.lst (ns.map V.int))) else none := fun b => by
      by_cases z : b = a
      · exact .inr ⟨_, _, if_pos z⟩
      · exact .inl (if_neg z)
    refine law_at KX G.T.g G.T.b G.T.builtins G.T.nolimit hg hobj hr hF hb hO (fun b u z => ?_) (fun b z => ?_) (fun _ => e) (hsp _ a ns hlen hbits hO (.inl (.inr ⟨_, if_pos rfl⟩)))
    · by_cases q : b = a
      · subst q
        cases (if_pos rfl).symm.trans z
        exact ⟨hobj, by rw [List.length_map]; exact Nat.le_trans hlen hn2, vs, _, rv, hobj⟩
      · cases (if_neg q).symm.trans z
    · by_cases q : b = a
      · exact q
      · exact absurd (if_neg q) z
end Any
set_option Elab.async false
set_option linter.all false
set_option maxRecDepth 100000
set_option maxHeartbeats 4000000
/-! all over a list, enumerate over a text and from a number, calls by name alone. -/
namespace Any
open PySem PySem.Spec PyProof.Rows L2
/-! ### all of a list of truths -/
def rAll (K : PySem.W.Frag) : List V → Hp → VK → Prop := fun vs H Q => ∃ (a : Addr) (bs : List Bool), vs = [V.ref a] ∧ SqL K H a (bs.map V.bl) ∧ Q (.bl (bs.all id)) H
theorem vals_bools : ∀ {bs : List Bool} {us : List Value}, Vals (bs.map V.bl) us → us = bs.map Value.bool
  | [], _, .nil => rfl
  | _ :: _, _, .cons h r => by
    rw [vals_bools r, show _ = Value.bool _ from h]
    rfl
theorem all_at (bs : List Bool) : (List.range bs.length).all (fun i => bs.getD i false) = bs.all id := by
  induction bs with
  | nil => rfl
  | cons b bs ih =>
    rw [List.length_cons, List.range_succ_eq_map, List.all_cons, List.all_map, List.all_cons, ← ih]
    rfl
theorem call_allL {X : Cx} (hc : X.calm = true) : CallR X (.builtin "all") (rAll X.K) := by
  intro pins s σ H vs us Q I r h
  obtain ⟨a, bs, rfl, hs, q⟩ := h
  obtain ⟨its, rv, hl, _⟩ := I.list hs
  have e := vals_bools rv
  subst e
  rw [Vals.ref1 r]
  have hL : s.heap.IsList a (bs.map Value.bool).toArray := hl.isList
  refine call_all_walk (wpAny_pyIter_list hL ?_)
  have la : a < s.heap.objs.size := by
    obtain ⟨o, ho, _⟩ := hL
    exact Heap.lt_size ho
  refine ⟨s.heap.objs.size, _, _, _, _, _, fun i => bs.getD i false, rfl, Walks.list (A := X.A.in1) (I.ok.hd hc) _ a (Nat.ne_of_lt la) (bs.map Value.bool).toArray, ⟨⟨_, Heap.get?_push_size _ rfl, rfl, rfl⟩, hL.at fun o z => Heap.get?_push_of_some _ z⟩, ?_, ?_⟩
  · intro i v s2 Q2 E2 hv hq
    have hv' : (bs.map Value.bool)[i]? = some v := by simpa using hv
    rw [List.getElem?_map] at hv'
    cases eb : bs[i]? with
    | none =>
      rw [eb] at hv'
      cases hv'
    | some b =>
      rw [eb] at hv'
      cases hv'
      refine wpAny_truthy_bool ?_
      have : bs.getD i false = b := by rw [List.getD_eq_getElem?_getD, eb]; rfl
      rw [← this]
      exact hq
  · intro h' tk hk
    refine ⟨.bl (bs.all id), H, I.kept (t' := tk) fun b o z => hk b o (fun m => ?_) (Heap.get?_push_of_some _ z), ?_, q⟩
    · have e : b = s.heap.objs.size := by simpa using m
      rw [e] at z
      exact absurd (Heap.lt_size z) (Nat.lt_irrefl _)
    · show Value.bool _ = Value.bool _
      rw [← all_at bs]
      congr 2
      simp
/-! ### enumerate, by the library's walk of counted items -/
section
variable {X : Cx} {pins : List (Addr × Obj)} {σ : L2.St} {H : Hp} {s : Shared} {e it : Addr} {fp : List Addr} {n i : Nat} {k : Int} {Pv : Nat → Value → Prop} {Sh : Nat → Heap → Prop} {Mid : Nat → Addr → Heap → Prop} {elts : List Expr} {kk : Nat} {tpos : Pos} {E : Value → Shared → Prop}
/-- one turn: the pair is a new tuple of ours -/
theorem enum_item {F : V → Prop} (W : WalksT X.prog X.w X.A e fp [e, it] n (fun i vals => ∃ t x, Pv i x ∧ vals = #[.int (k + (i : Int)) t, x]) Sh Mid) (I : Inv X pins σ H s) (hi : i < n) (st : Sh i s.heap)
    (own : ∀ b ∈ [e, it], FpOk X pins H b ∧ b < s.heap.objs.size) (rel : ∀ x, Pv i x → ∃ y, RelV y x ∧ F y) :
    wpAny (model X.prog X.w) X.A (pyNext (.ref e)) (fun r s1 => ∃ u, r = some u ∧ wpAny (model X.prog X.w) X.A (letOwnedTupleGo (.Tuple elts kk tpos) (.ref e) u)
      (fun _ s2 => ∃ x H', Inv X pins σ H' s2 ∧ RelV x u ∧ (∃ T y, x = .ref T ∧ H T = none ∧ H' = upd H T (.tup [.int (k + (i : Nat)), y]) ∧ F y) ∧ Sh (i + 1) s2.heap ∧ ∀ b ∈ [e, it], H' b = none) E s1) E s := by
  refine W.item i s _ _ hi st fun T vals h1 t1 hp above tup mid keep1 => ⟨.ref T, rfl, W.go elts kk tpos i T { s with heap := h1, toks := t1 } _ _ mid fun h2 st2 keep2 => ?_⟩
  obtain ⟨tk, v, hv, rfl⟩ := hp
  obtain ⟨y, ry, fy⟩ := rel v hv
  obtain ⟨o, ho, oc, m, od⟩ := tup
  have laid : ObjOk X.prog X.w (upd H T (.tup [.int (k + (i : Nat)), y])) h2 T (.tup [.int (k + (i : Nat)), y]) :=
    ⟨by show 2 ≤ sizeLine; decide, [.int (k + (i : Int)) tk, v], .cons ⟨tk, rfl⟩ (.cons ry .nil), ⟨o, keep2 T o (W.apart i T h1 mid) ho, oc, m, od⟩⟩
  refine ⟨.ref T, _, I.turnedNew (t' := t1) (ch := [e, it]) (fun b u nb z => keep2 b u nb (keep1 b u nb z)) (fun b hb => (own b hb).1) above laid, rfl, ⟨T, y, rfl, I.hok.fresh above, rfl, fy⟩, st2, fun b hb => ?_⟩
  rw [upd_ne (Nat.ne_of_lt (Nat.lt_of_lt_of_le (own b hb).2 above))]
  exact (own b hb).1.1
/-- the end -/
theorem enum_done (W : WalksT X.prog X.w X.A e fp [e, it] n (fun i vals => ∃ t x, Pv i x ∧ vals = #[.int (k + (i : Int)) t, x]) Sh Mid) (I : Inv X pins σ H s) (st : Sh n s.heap) (own : ∀ b ∈ [e, it], FpOk X pins H b) :
    wpAny (model X.prog X.w) X.A (pyNext (.ref e)) (fun r s1 => r = none ∧ Inv X pins σ H s1) E s :=
  W.done s _ _ st fun h' tk keep => ⟨rfl, I.turnedL (t' := tk) (ch := [e, it]) keep own⟩
end
/-- the two records of an enumerate are records -/
theorem enum_obj {h : Heap} {e it : Addr} {c : Int} {old : Value} {o : Obj} {vs : Array Value} (he : IsEnum h e it c old) (ho : h.get? it = some o) (hd : o.data = .fields vs) : ∀ b ∈ [e, it], ∃ u, h.get? b = some u ∧ ∀ v, u.data ≠ .cell v := by
  intro b hb
  rcases List.mem_cons.mp hb with rfl | hb
  · exact ⟨_, he, fun v z => nomatch z⟩
  · cases List.mem_singleton.mp hb
    exact ⟨o, ho, fun v z => by rw [hd] at z; cases z⟩
theorem enum_lt {h : Heap} {e it : Addr} {c : Int} {old : Value} {o : Obj} (he : IsEnum h e it c old) (ho : h.get? it = some o) : ∀ b ∈ [e, it], b < h.objs.size := by
  intro b hb
  rcases List.mem_cons.mp hb with rfl | hb
  · exact Heap.lt_size he
  · cases List.mem_singleton.mp hb
    exact Heap.lt_size ho
/-- an enumerate just laid, its iterator under it -/
theorem enum_laid {X : Cx} {pins : List (Addr × Obj)} {σ : L2.St} {H : Hp} {s : Shared} {tg : Expr} {R : It → Hp → Prop} {J : It} {tn : Nat → Heap → Prop} {h' : Heap} (I : Inv X pins σ H s) (keep : ∀ b u, s.heap.get? b = some u → h'.get? b = some u)
    (tu : Turn X.prog X.w X.K tg J [s.heap.objs.size + 1, s.heap.objs.size] (s.heap.objs.size + 1) tn) (t0 : tn 0 h') (q : R J H) : PIE X pins σ tg R (.ref (s.heap.objs.size + 1)) { s with heap := h' } := by
  refine ⟨_, _, tn, J, H, rfl, I.kept (t' := s.toks) keep, tu, t0, fun b hb => ?_, q⟩
  have le : s.heap.objs.size ≤ b := by
    rcases List.mem_cons.mp hb with rfl | hb
    · exact Nat.le_succ _
    · exact Nat.le_of_eq (List.mem_singleton.mp hb).symm
  exact I.fpOk le (I.hok.fresh le)
/-! #### over a text -/
def Ites (x : Str) : It :=
  ⟨fun i _ => i < x.cps.size, fun i H v H' => ∃ T y, v = .ref T ∧ H T = none ∧ H' = upd H T (.tup [.int (0 + (i : Nat)), y]) ∧ ∃ c, x.cps[i]? = some c ∧ y = .str ⟨#[c]⟩, fun i _ => i = x.cps.size⟩
theorem turn_enumS {P : Program} {w : World} {K : PySem.W.Frag} {elts : List Expr} {kk : Nat} {tpos : Pos} (x : Str) (t : Tok) (e it : Addr) (ne : e ≠ it) :
    Turn P w K (.Tuple elts kk tpos) (Ites x) [e, it] e (fun i h => (∃ old, IsEnum h e it (0 + (i : Int)) old) ∧ h.IsStrIter it (strIterType x) x t i) where
  mem := List.mem_cons_self ..
  obj := fun _ _ ⟨⟨_, a⟩, ⟨_, b, _, c⟩⟩ => enum_obj a b c
  keep := fun _ _ _ ⟨⟨old, a⟩, ⟨o, b, c⟩⟩ same => ⟨⟨old, same e (List.mem_cons_self ..) _ a⟩, ⟨o, same it (List.mem_cons_of_mem _ (List.mem_singleton.mpr rfl)) o b, c⟩⟩
  item := by
    intro X eP ew eK calm i pins s σ H E I own st go
    subst eP ew eK
    have W := WalksT.enumFrom (prog := X.prog) (w := X.w) 0 (Draws.text (A := X.A.in1) (I.ok.hd calm) it x t) e ne (by simpa using ne) (List.mem_singleton.mpr rfl)
    obtain ⟨⟨old, a⟩, ⟨o, b, c⟩⟩ := id st
    exact enum_item (F := fun y => ∃ c, x.cps[i]? = some c ∧ y = .str ⟨#[c]⟩) W I go st (fun q hq => ⟨own q hq, enum_lt a b q hq⟩) fun v ⟨c, u, hc, ev⟩ => ⟨.str ⟨#[c]⟩, ⟨u, ev⟩, c, hc, rfl⟩
  done := by
    intro X eP ew eK calm i pins s σ H E I own st stop
    subst eP ew eK
    have W := WalksT.enumFrom (prog := X.prog) (w := X.w) 0 (Draws.text (A := X.A.in1) (I.ok.hd calm) it x t) e ne (by simpa using ne) (List.mem_singleton.mpr rfl)
    have ei : i = x.cps.size := stop
    rw [ei] at st
    exact enum_done W I st own
  self := fun _ _ _ _ _ ⟨⟨_, a⟩, _⟩ q => wpAny_pyIter_enum a q
def iEnumS (ta : TA) : TI := fun σ H R => ta σ H fun vs H1 => ∃ x, vs = [.str x] ∧ R (Ites x) H1
theorem pi_enumS {X : Cx} {e : Expr} {ta : TA} {p pos tpos : Pos} {elts : List Expr} {kk : Nat} (hg : Gl X "enumerate") (hm : X.mg "enumerate" = none) (ha : PA X [e] ta) (one : starEach [e] X.env = [(false, eval e X.env)] := by rfl) :
    PI X (.Tuple elts kk tpos) (.Call (.Name "enumerate" p) [e] [] pos) (iEnumS ta) :=
  ⟨fun pins s σ H R I h => Call_ (ld_blt I hg hm boot_enumerate (PyProof.Rows.callWith_type1 (thn (ha.run pos pins s σ H _ I h) fun us s1 ⟨vs, H1, I1, rv, x, ev, q⟩ => by
    subst ev
    obtain ⟨u, rfl, t, rfl⟩ := vals1 rv
    exact call_enumerate_str fun h' a b _ keep => wpAny_pyIter_enum a (enum_laid I1 keep (turn_enumS x t _ _ (Nat.succ_ne_self _)) ⟨⟨.none, a⟩, b⟩ q)) one rfl))⟩
theorem walk_enumS {x : Str} : Walk (Ites x) x.cps.size (fun _ => True) (fun i H v H' => ∃ T c, v = .ref T ∧ H T = none ∧ H' = upd H T (.tup [.int (i : Nat), .str ⟨#[c]⟩]) ∧ x.cps[i]? = some c) := by
  refine ⟨fun _ _ lt _ => lt, fun _ _ => rfl, fun i H v H' _ _ y => ?_⟩
  obtain ⟨T, y, ev, hT, eH, c, hc, ey⟩ := y
  rw [ey, Int.zero_add] at eH
  exact ⟨T, c, ev, hT, eH, hc⟩
/-! #### over a list, from a number on -/
def Itek (K : PySem.W.Frag) (a : Addr) (k : Int) : It :=
  ⟨fun i H => ∃ xs : List V, SqL K H a xs ∧ i < xs.length, fun i H v H' => ∃ T y, v = .ref T ∧ H T = none ∧ H' = upd H T (.tup [.int (k + (i : Nat)), y]) ∧ ∀ xs, SqL K H a xs → xs[i]? = some y, fun i H => ∃ xs : List V, SqL K H a xs ∧ i = xs.length⟩
theorem turn_enumK {P : Program} {w : World} {K : PySem.W.Frag} {elts : List Expr} {kk : Nat} {tpos : Pos} (k : Int) (a e it : Addr) (ne : e ≠ it) (nae : a ≠ e) (nai : a ≠ it) :
    Turn P w K (.Tuple elts kk tpos) (Itek K a k) [e, it] e (fun i h => (∃ old, IsEnum h e it (k + (i : Int)) old) ∧ h.IsListIter it a i) where
  mem := List.mem_cons_self ..
  obj := fun _ _ ⟨⟨_, p⟩, ⟨_, b, _, c⟩⟩ => enum_obj p b c
  keep := fun _ _ _ ⟨⟨old, p⟩, b⟩ same => ⟨⟨old, same e (List.mem_cons_self ..) _ p⟩, b.at fun o z => same it (List.mem_cons_of_mem _ (List.mem_singleton.mpr rfl)) o z⟩
  item := by
    intro X eP ew eK calm i pins s σ H E I own st go
    subst eP ew eK
    obtain ⟨xs, hq, lt⟩ := go
    obtain ⟨its, rv, li, _⟩ := I.list hq
    have len := rv.length
    have W := WalksT.enumFrom (prog := X.prog) (w := X.w) k (Draws.list (A := X.A.in1) (I.ok.hd calm) it a nai its.toArray) e ne (by simp [ne, Ne.symm nae]) (List.mem_cons_self ..)
    obtain ⟨⟨old, p⟩, b⟩ := id st
    obtain ⟨o, ho, _⟩ := id b
    refine wpAny_mono (enum_item (F := fun y => ∀ ys, SqL X.K H a ys → ys[i]? = some y) W I (by simp; omega) ⟨⟨old, p⟩, b, li.isList⟩ (fun q hq => ⟨own q hq, enum_lt p ho q hq⟩) fun v hv => ?_) (fun r s1 ⟨u, er, z⟩ => ⟨u, er, wpAny_mono z (fun _ s2 ⟨x, H', J, rx, y, st2, fr⟩ => ⟨x, H', J, rx, y, ⟨st2.1, st2.2.1⟩, fr⟩) fun _ _ z => z⟩) fun _ _ z => z
    have hx : xs[i]? = some xs[i] := List.getElem?_eq_getElem lt
    obtain ⟨u, hu, ru⟩ := rv.get hx
    have ev : its[i]? = some v := by simpa using hv
    cases hu.symm.trans ev
    exact ⟨xs[i], ru, fun ys hy => by rw [I.list_inj hy hq, hx]⟩
  done := by
    intro X eP ew eK calm i pins s σ H E I own st stop
    subst eP ew eK
    obtain ⟨xs, hq, ei⟩ := stop
    obtain ⟨its, rv, li, _⟩ := I.list hq
    have len := rv.length
    have W := WalksT.enumFrom (prog := X.prog) (w := X.w) k (Draws.list (A := X.A.in1) (I.ok.hd calm) it a nai its.toArray) e ne (by simp [ne, Ne.symm nae]) (List.mem_cons_self ..)
    have en : i = its.toArray.size := by simp; omega
    rw [en] at st
    exact enum_done W I ⟨st.1, st.2, li.isList⟩ own
  self := fun _ _ _ _ _ ⟨⟨_, p⟩, _⟩ q => wpAny_pyIter_enum p q
section
variable {M : Model} {A : Around} {E : Value → Shared → Prop} {s : Shared} {env : Env}
/-- T(e, .., k = v, ..), T a built-in class -/
theorem callWith_tyKw {pos : Pos} {T : String} {e : Expr} {rest : List Expr} {kws : List Keyword} {Q : Value → Shared → Prop}
    (h : wpAny M A (spliced (backTo pos (starEach (e :: rest) env))) (fun vs s₁ => wpAny M A (evalAll ((backToKw pos (keywordEach kws env)).map (·.2))) (fun kvs s₂ => wpAny M A (call (.type T) vs (((backToKw pos (keywordEach kws env)).filterMap (·.1)).zip kvs)) Q E s₂) E s₁) E s)
    (first : backTo pos (starEach (e :: rest) env) = (false, eval e env) :: backTo pos (starEach rest env) := by rfl) (nostar : (backTo pos (starEach (e :: rest) env)).any (·.1) = false := by rfl)
    (named : (backToKw pos (keywordEach kws env)).all (·.1.isSome) = true := by rfl) (nodouble : (backToKw pos (keywordEach kws env)).any (·.1.isNone) = false := by rfl) :
    wpAny M A (callWith pos (.type T) [] (backTo pos (starEach (e :: rest) env)) (backToKw pos (keywordEach kws env))) Q E s := by
  have args : wpAny M A (evalArgs (.type T) true (backTo pos (starEach (e :: rest) env)) (backToKw pos (keywordEach kws env))) (fun a s₁ => wpAny M A (call (.type T) ([] ++ a.pos) a.kw) Q E s₁) E s := by
    rw [first] at h ⊢
    exact evalArgs_kwB named h
  unfold callWith
  refine wpAny_bind (wpAny_holding (wpAny_mono args (fun a s₁ run => wpAny_bind (wpAny_standAt ?_)) fun _ _ z => z))
  simp only [nostar, nodouble, Bool.or_false]
  exact wpAny_bind (wpAny_pure (wpAny_bind (wpAny_mono run (fun r s₂ z => wpAny_bind (wpAny_holding (wpAny_point (wpAny_pure z)))) fun _ _ z => z)))
end
def iEnumK (K : PySem.W.Frag) (ta tk : TA) : TI := fun σ H R => ta σ H fun vs H1 => tk σ H1 fun zs H2 => ∃ a xs k, vs = [.ref a] ∧ zs = [.int k] ∧ SqL K H2 a xs ∧ 0 ≤ k ∧ k < 1000 ∧ R (Itek K a k) H2
theorem pi_enumK {X : Cx} {e e2 : Expr} {ta tk : TA} {p pos tpos kp : Pos} {elts : List Expr} {kk : Nat} (hg : Gl X "enumerate") (hm : X.mg "enumerate" = none) (ha : PA X [e] ta) (hk : PK X [⟨some (Str.ofString "start"), e2, kp⟩] tk)
    (first : backTo pos (starEach [e] X.env) = (false, eval e X.env) :: backTo pos (starEach [] X.env) := by rfl) (nostar : (backTo pos (starEach [e] X.env)).any (·.1) = false := by rfl) :
    PI X (.Tuple elts kk tpos) (.Call (.Name "enumerate" p) [e] [⟨some (Str.ofString "start"), e2, kp⟩] pos) (iEnumK X.K ta tk) :=
  ⟨fun pins s σ H R I h => wpAny_Call_Name_kw (ld_blt I hg hm boot_enumerate (callWith_tyKw (thn (ha.run pos pins s σ H _ I h) fun us s1 ⟨vs, H1, I1, rv, q1⟩ => thn (hk.run pos pins s1 σ H1 _ I1 q1) fun ws s2 ⟨zs, H2, I2, rz, q2⟩ => by
    obtain ⟨a, xs, k, ev, ez, hq, k0, k1, q⟩ := q2
    subst ev ez
    obtain ⟨u, rfl, eu⟩ := vals1 rv
    obtain ⟨z, rfl, t, rfl⟩ := vals1 rz
    cases (show u = Value.ref a from eu)
    obtain ⟨its, _, li, _⟩ := I2.list hq
    obtain ⟨o, ho, _⟩ := id li.isList
    have la := Heap.lt_size ho
    refine enum_begins_start (begins_list a its.toArray) li.isList (by omega) (by omega) fun h' p b _ keep => wpAny_pyIter_enum p (enum_laid I2 keep (turn_enumK k a _ _ (Nat.succ_ne_self _) (Nat.ne_of_lt (Nat.lt_succ_of_lt la)) (Nat.ne_of_lt la)) ⟨⟨.none, ?_⟩, ⟨_, b, rfl, rfl⟩⟩ q)
    simpa using p) first nostar))⟩
theorem walk_enumK {K : PySem.W.Frag} {a : Addr} {k : Int} {xs : List V} : Walk (Itek K a k) xs.length (fun H => SqL K H a xs) (YPair (fun i => some (.int (k + (i : Nat)))) (fun i => xs[i]?)) :=
  ⟨fun _ _ lt q => ⟨xs, q, lt⟩, fun _ q => ⟨xs, q, rfl⟩, fun i _ _ _ _ q ⟨T, y, ev, hT, eH, at_⟩ => ⟨T, .int (k + (i : Nat)), y, ev, hT, eH, rfl, at_ xs q⟩⟩
/-! ### f(k = v) -/
section
variable {X : Cx} {CX : CXT} {k : Nat} {f : Addr} {fd : FuncData} {ps ks : List Str} {sp : Sp} {E : XK} {x : Str} {p pos : Pos} {kws : List Keyword} {tk : TA} {g : List Value → List Value → List Value} {gV : List V → List V → List V}
theorem pe_callK0 (F : FnOk X.prog X.w X.K X.mg X.base CX k f fd ps sp) (hr : Room k X.A) (hg : Gl X x) (hm : X.mg x = some (.ref f)) (hk : PySem.W.keepIn X.K (.ref f) = true)
    (hb : ∀ (s : Shared) (ws : List Value), ws.length = ps.length → BindsTo s fd ⟨[], ks.zip ws⟩ (ps.zip ws)) (hx : Passes CX X E)
    (hkw : PK X kws tk) (hall : (backToKw pos (keywordEach kws X.env)).all (·.1.isSome) = true := by rfl) (hks : (backToKw pos (keywordEach kws X.env)).filterMap (·.1) = ks := by rfl)
    (hdb : (x == ("__debug__" : Str)) = false := by decide)
    (hpl : ((backTo pos (starEach [] X.env)).any (·.1) || (backToKw pos (keywordEach kws X.env)).any (·.1.isNone)) = false := by rfl) :
    PE X (.Call (.Name x p) [] kws pos) (tCall sp [] E tk) := by
  refine ⟨fun pins s σ H Q I h => ?_⟩
  refine wpAny_Call_Name_kw (ld_glob I hg hm ?_ hdb)
  refine PySem.W.callWith_KW0 (h₀ := X.base) I.ok.mod.kin hk hall (thn (hkw.run pos pins s σ H _ I h) fun ws s2 ⟨zs, H2, I2, rz, q2⟩ => ⟨I2.kIn, ?_⟩) hpl
  rw [hks]
  have q2' : sp zs H2 Q E := by
    have : sp (zs ++ []) H2 Q E := q2
    rwa [List.append_nil] at this
  have hl : ws.length = ps.length := by rw [← rz.length]; exact F.len _ _ _ _ q2'
  refine wpAny_call (codeAny_mono (F.run X.A X.stack s2 H2 ⟨[], ks.zip ws⟩ ws zs Q E hr I2.env0 (hb s2 ws hl) rz q2') fun r s' z => ?_)
  match r, z with
  | .error e, z => exact hx pins σ H2 s2 e s' I2 z
  | .ok (.ret u), z => exact I2.after z
end
end Any
set_option Elab.async false
set_option linter.all false
set_option maxRecDepth 100000
set_option maxHeartbeats 4000000
/-! Errors of own classes held as values: made, asked by isinstance, read. -/
namespace Any
open PySem PySem.Spec PySem.W PySem.Calls PyProof.Rows
section
variable {prog : Program} {w : World} {A : Around} {E : Value → Shared → Prop} {K : Frag} {x D : Addr} {ox : Obj} {od : Option Obj}
/-- what the written part says of an error class at D, for its instances to be asked -/
structure ErrC (K : Frag) (D : Addr) : Prop where
  hg : findIn K (.ref D) "__getattribute__" = some (some (.builtin "BaseException.__getattribute__"))
  hk : findIn K (.ref D) "__getattr__" = some none
  hs : subIn K (.ref D) (.type "BaseException") = some true
  hd : hasDictIn K D = true
  ha : findIn K (.ref D) "__class__" = some (some (.builtin "object.__class__"))
  hn : specialIn K (.builtin "object.__class__") "__get__" = some (some (.builtin "getset_descriptor.__get__"))
  ht : takesIn K (.builtin "object.__class__") = some true
  hm : mroIn K D (.type "object") = some true
theorem ErrC.found (C : ErrC K D) : findObj K D od "__class__" = some (.bind (.builtin "getset_descriptor.__get__") (.builtin "object.__class__")) := by
  obtain ⟨cd, hc, _⟩ := any_some C.hd
  unfold findObj
  rw [hc, Option.bind_some, C.ha, Option.bind_some]
  simp [C.hn, C.ht]
/-- error.__class__, with a dict of its own or none -/
theorem ErrC.ask (C : ErrC K D) {s : Shared} {Q : Option Value → Shared → Prop} (X : K.In s.heap) (I : InstAt s.heap x ox D od) (h : Q (some (.ref D)) { s with toks := s.toks + 1 }) : wpAny (model prog w) A (getAttr? (.ref x) "__class__") Q E s := by
  obtain ⟨hh, gg, dd, tt, oo⟩ := s
  have T := I.type (M := model prog w)
  have below : Looks (model prog w) hh (isInstance (.ref x) (.type "BaseException")) true := T.andThen (looks_subIn X C.hs)
  have other : (onTheHeap (Value.ref D) && Value.builtin "BaseException.__getattribute__" == Value.builtin "object.__getattribute__") = false := by
    rw [show (Value.builtin "BaseException.__getattribute__" == Value.builtin "object.__getattribute__") = false by decide +kernel, Bool.and_false]
  unfold getAttr? getAttrBy? getAttrBy
  refine wpAny_bind (wpAny_mkText (wpAny_bind (wpAny_attempt (wpAny_holding (wpAny_bind (T.at (wpAny_bind ((looks_findIn X C.hg).at ?_))))))))
  show wpAny _ _ (if (onTheHeap (Value.ref D) && Value.builtin "BaseException.__getattribute__" == Value.builtin "object.__getattribute__") = true then _ else _) _ _ _
  rw [other, if_neg Bool.false_ne_true]
  unfold getAttrByItsOwn hookBefore
  refine wpAny_bind ?_
  rw [if_pos (show onTheHeap (Value.ref D) = true from rfl)]
  refine (looks_findIn X C.hk).at (wpAny_bind (wpAny_attempt (wpAny_holding ?_)))
  unfold callGetattribute
  rw [show (false && onTheHeap (Value.builtin "BaseException.__getattribute__")) = false from rfl, if_neg Bool.false_ne_true]
  unfold boundAndCalled
  rw [PySem.F.excAttr_ValueError.ga.bind (.ref x)]
  refine wpAny_bind (wpAny_pure (wpAny_call (codeAny_call_builtin PySem.F.excAttr_ValueError.ga.plain PySem.F.entry_bexc_ga ?_)))
  refine @check_slot (model prog w) _ _ ⟨hh, gg, dd, tt + 1, oo⟩ "BaseException.__getattribute__" "BaseException" "__getattribute__" (.ref x) [.str "__class__" tt] [] _ (by decide +kernel) (by decide +kernel) below (PySem.F.args_bexc_ga (.ref x) (.str "__class__" tt)) ?_
  unfold Builtin.«object.__getattribute__»
  refine wpAny_bind (wpAny_of_eq (a := ((Value.ref x : Value), [Value.str "__class__" tt])) (by first | rfl | (simp only [slotArgs]; rfl)) (wpAny_bind (wpAny_pure (wpAny_bind (T.at (wpAny_bind ((looks_find X I C.found).at ?_)))))))
  refine wpAny_bind (wpAny_holding (wpAny_call (class_get (s := ⟨hh, gg, dd, tt + 1, oo⟩) X I C.hm (wpAny_pure ?_))))
  show wpAny _ _ (handedOut (.ref D)) _ _ _
  rw [handedOut_of (v := .ref D) rfl]
  first
    | exact wpAny_pure (wpAny_pure h)
    | exact wpAny_pure h
    | exact wpAny_pure (wpAny_bind (wpAny_pure (wpAny_pure h)))
theorem ErrC.kit (C : ErrC K D) : KitX K (.ref x) (.ref D) (fun h => InstAt h x ox D od) where
  ty := fun _ _ _ I => I.type
  it := fun M h X _ => by
    obtain ⟨cd, hc, _⟩ := any_some C.hd
    unfold clsIn at hc
    split at hc
    · rename_i ho
      intro A' Q' E' s' k q
      unfold isType loadHead
      exact wpAny_bind (wpAny_loadPart (k _ _ (X _ _ ho)) (wpAny_pure q))
    · cases hc
  ne := fun h tp dd its n sl X htp => by
    obtain ⟨cd, hc, _⟩ := any_some C.hd
    refine Bool.eq_false_iff.mpr fun q => ?_
    have e : D = tp := Value.ref.inj (beq_iff_eq.mp q)
    subst e
    unfold clsIn at hc
    split at hc
    · rename_i ho
      cases (X _ _ ho).symm.trans htp
    · cases hc
  ca := fun X I k => C.ask X I k
end
/-! ### over the abstract heap -/
section
open L2
/-- at a stands an error of the class at C that bears fs -/
def ErrAt (H : Hp) (a C : Addr) (fs : List (Str × V)) : Prop := (fs = [] ∧ H a = some (ExO (.ref C) a)) ∨ ∃ dx, H a = some (exo a C (some dx)) ∧ H dx = some (exd dx fs)
theorem ErrAt.same {H H' : Hp} {a C : Addr} {fs : List (Str × V)} (e : ErrAt H a C fs) (s : Same H H') : ErrAt H' a C fs := by
  rcases e with ⟨z, e⟩ | ⟨dx, e1, e2⟩
  · exact .inl ⟨z, s _ _ e⟩
  · exact .inr ⟨dx, s _ _ e1, s _ _ e2⟩
theorem ErrAt.here {H : Hp} {a C : Addr} {fs : List (Str × V)} (e : ErrAt H a C fs) : ∃ o, H a = some o := by
  rcases e with ⟨_, e⟩ | ⟨dx, e1, _⟩
  · exact ⟨_, e⟩
  · exact ⟨_, e1⟩
section
variable {X : Cx} {pins : List (Addr × Obj)} {σ : L2.St} {H : Hp} {s : Shared} {a C : Addr} {fs : List (Str × V)}
theorem ErrAt.inst (I : Inv X pins σ H s) (e : ErrAt H a C fs) : ∃ ox od, InstAt s.heap a ox C od ∧ ∀ f v, fs.lookup f = some v → ∃ o u, od = some o ∧ lookIn f o = some (some u) ∧ RelV v u := by
  rcases e with ⟨rfl, e⟩ | ⟨dx, e1, e2⟩
  · obtain ⟨⟨oe, vs, ho, ⟨hc, hd⟩, hf, _⟩, _, _⟩ := (show ObjOk X.prog X.w H s.heap a (.ext _) from I.hok a _ e)
    refine ⟨oe, none, ⟨ho, hc, by unfold notCls; rw [hf], by rw [hd]; exact True.intro⟩, fun f v q => nomatch q⟩
  · obtain ⟨t1, ho⟩ := exo_at I.hok e1
    obtain ⟨mA, hn, hr⟩ := exd_at I.hok e2
    obtain ⟨od, hod, hl⟩ := lookIn_ns hn
    refine ⟨_, some od, ⟨ho, rfl, rfl, hod⟩, fun f v q => ?_⟩
    have r := hr f
    rw [q] at r
    obtain ⟨u, hu, ru⟩ := RelO.some_of (v := v) (o := mA f) r
    exact ⟨od, u, rfl, by rw [hl, hu], ru⟩
end
/-- isinstance(error, c) -/
def rIsErr (K : Frag) : List V → Hp → VK → Prop := fun xs H Q => ∃ (a C : Addr) (fs : List (Str × V)) (c : V) (u : Value) (b : Bool), xs = [.ref a, c] ∧ ErrAt H a C fs ∧ ErrC K C ∧ ClsV c u ∧ kitOne K (.ref C) u = some b ∧ Q (.bl b) H
theorem call_isErr {X : Cx} : CallR X (.builtin "isinstance") (rIsErr X.K) := by
  intro pins s σ H xs us Q I r h
  obtain ⟨a, C, fs, c, u, b, rfl, ea, T, k, e, q⟩ := h
  obtain ⟨u1, u2, rfl, r1, r2⟩ := vals2 r
  cases (show u1 = Value.ref a from r1)
  cases k.eq r2
  obtain ⟨ox, od, J, _⟩ := ea.inst I
  exact kia_one (T.kit (x := a) (ox := ox) (od := od)) I.kIn J e (fun z => nomatch z) fun tk => ⟨.bl b, H, I.tok tk, rfl, q⟩
/-- error.f -/
def tErrF (K : Frag) (te : TE) (f : Str) : TE := fun σ H Q => te σ H fun x H1 => ∃ (a C : Addr) (fs : List (Str × V)) (v : V), x = .ref a ∧ ErrAt H1 a C fs ∧ ErrC K C ∧ findIn K (.ref C) f = some none ∧ fs.lookup f = some v ∧ Q v H1
theorem pe_errF {X : Cx} {e : Expr} {te : TE} {f : Str} {pos : Pos} (he : PE X e te) (hb : attributeBase e f X.env (eval e X.env) = eval e X.env := by rfl) : PE X (.Attribute e f pos) (tErrF X.K te f) := by
  refine ⟨fun pins s σ H Q I h => attr_of hb (thn (he.run pins s σ H _ I h) fun u s1 hh => ?_)⟩
  obtain ⟨x, H1, I1, rx, a, C, fs, v, rfl, ea, T, hno, hl, q⟩ := hh
  cases (show u = Value.ref a from rx)
  obtain ⟨ox, od, J, hf⟩ := ea.inst I1
  obtain ⟨o, u, rfl, hlo, ru⟩ := hf f v hl
  exact HandSPX.exc_get I1.kIn J T.hg T.hk T.hs (findObj_own T.hd hno rfl hlo) (handed_of ru) ⟨v, H1, I1.tok _, ru, q⟩
/-- Base.__init__(self, ..), Base an own error class without an __init__ of its own -/
structure BaseI (K : Frag) (M : Addr) : Prop where
  rd : readsIn K M (.type "type") = true
  fd : findCls K (.ref M) (.type "type") "__init__" = some (.val (.builtin "ValueError.__init__"))
  sp : specialIn K (.ref M) "__getattribute__" = some (some (.builtin "type.__getattribute__"))
theorem pe_baseI {X : Cx} {M : Addr} {x : Str} {e : Expr} {es : List Expr} {ta : TA} {p1 p2 pos : Pos} {pl : Sem Bool} (B : BaseI X.K M) (hg : Gl X x) (hm : X.mg x = some (.ref M)) (ha : PA X (e :: es) ta) (hdb : (x == ("__debug__" : Str)) = false := by decide)
    (hc : eval (.Call (.Attribute (.Name x p1) "__init__" p2) (e :: es) [] pos) X.env = (do
      let ov ← eval (.Name x p1) X.env
      standAt p2.atName
      let (f, first) ← holding [ov] (getMethod ov "__init__" pl)
      callWith pos f first (backTo pos (starEach (e :: es) X.env)) (backToKw pos (keywordEach [] X.env))) := by rfl)
    (he : starEach (e :: es) X.env = (false, eval e X.env) :: starEach es X.env := by rfl) (hpl : (backTo pos (starEach es X.env)).any (·.1) = false := by rfl) :
    PE X (.Call (.Attribute (.Name x p1) "__init__" p2) (e :: es) [] pos) (tVeI X.K ta) := by
  refine ⟨fun pins s σ H Q I h => methodCall_KW (ld_glob I hg hm (method_cls I.kIn B.sp (cls_value I.kIn B.rd B.fd (by decide +kernel) ?_)) hdb) hc⟩
  show wpAny _ _ (callWith pos (Value.builtin "ValueError.__init__") [] (backTo pos (starEach (e :: es) X.env)) []) _ _ _
  refine callWith_method1 (thn (ha.run pos pins _ σ H _ (I.tok _) h) fun us s1 hh => ?_) he hpl
  obtain ⟨vs, H1, I1, r1, a, C, ws, rfl, hl, T, ea, q⟩ := hh
  cases r1 with
  | @cons _ u0 _ ur ra rw' =>
    cases (show u0 = Value.ref a from ra)
    refine oinit_ok T I1 ea ?_ fun s' J => ⟨.non, H1, J, rfl, q⟩
    have hz := Paired.length rw'
    rw [sizeLine_eq]
    omega
/-- C(e, ..) as a value, its own __init__ keeping sp -/
def tMkE (C : Addr) (sp : Sp) (ta : TA) : TE := fun σ H Q => ta σ H fun vs H1 => vs.length ≤ 1000 ∧ ∀ a, H1 a = none → sp (.ref a :: vs) (upd H1 a (exo a C none)) (fun v H2 => v = .non ∧ Q (.ref a) H2) fun _ _ _ => False
theorem pe_mkE {X : Cx} {CX : CXT} {x : Str} {C fI : Addr} {k : Nat} {fd : FuncData} {ps : List Str} {sp : Sp} {e : Expr} {es : List Expr} {ta : TA} {p pos : Pos} (T : OexC X.K C) (iC : findIn X.K (.ref C) "__init__" = some (some (.ref fI))) (tI : typeIn X.K (.ref fI) = some (.type "function"))
    (F1 : FnG X.prog X.w X.K X.mg X.base CX k fI fd ps sp) (cl : Clr X.A) (hr : Room (k + 1) X.A) (hb : Binds X.K fd ps []) (hx : Passes CX X (fun _ _ _ => False)) (hg : Gl X x) (hm : X.mg x = some (.ref C)) (ha : PA X (e :: es) ta)
    (hdb : (x == ("__debug__" : Str)) = false := by decide) (he : starEach (e :: es) X.env = (false, eval e X.env) :: starEach es X.env := by rfl) (hpl : (backTo pos (starEach es X.env)).any (·.1) = false := by rfl) :
    PE X (.Call (.Name x p) (e :: es) [] pos) (tMkE C sp ta) := by
  refine ⟨fun pins s σ H Q I h => ?_⟩
  obtain ⟨nm, q, N, bs, bm, sn, sub, ab, col, dd, k0, k1, k2, k3, k5, hC, hbm⟩ := T.cls
  refine wpAny_Call_Name_kw (ld_glob I hg hm (callWith_K (h₀ := X.base) I.ok.mod.kin T.kC (thn (ha.run pos pins s σ H _ I h) fun us s1 hh => ?_) he hpl) hdb)
  obtain ⟨vs, H1, I1, r1, hz, q1⟩ := hh
  refine ⟨I1.kIn, ?_⟩
  obtain ⟨hh, gg, dr, tk, oo⟩ := s1
  have hsz : hh.objs.size ≤ hh.objs.size + 1 := Nat.le_succ _
  have hq := q1 (hh.objs.size + 1) (I1.hok.fresh hsz)
  have kk : ∀ b o, hh.get? b = some o → ((hh.push (kdv_tup us)).push (HandSPX.excO C hh.objs.size)).get? b = some o := fun b o z => Heap.get?_push_of_some _ (Heap.get?_push_of_some _ z)
  have hget : ((hh.push (kdv_tup us)).push (HandSPX.excO C hh.objs.size)).get? (hh.objs.size + 1) = some (HandSPX.excO C hh.objs.size) := by heap_get
  have I2 : Inv X pins σ (upd H1 (hh.objs.size + 1) (exo (hh.objs.size + 1) C none)) ⟨(hh.push (kdv_tup us)).push (HandSPX.excO C hh.objs.size), gg, dr, tk, oo⟩ :=
    I1.laid (t' := tk) (a := hh.objs.size + 1) (o := exo (hh.objs.size + 1) C none) (h' := (hh.push (kdv_tup us)).push (HandSPX.excO C hh.objs.size)) kk hsz (exo_ok hget)
  have r2 : Vals (V.ref (hh.objs.size + 1) :: vs) (Value.ref (hh.objs.size + 1) :: us) := .cons rfl r1
  have hl : (Value.ref (hh.objs.size + 1) :: us ++ []).length = ps.length := by
    rw [List.append_nil, ← F1.len _ _ _ _ hq]
    exact r2.length.symm
  have hb2 := hb ⟨(hh.push (kdv_tup us)).push (HandSPX.excO C hh.objs.size), gg, dr, tk, oo⟩ (Value.ref (hh.objs.size + 1) :: us) I2.kIn hl
  rw [List.append_nil] at hb2
  have hus : us.length ≤ sizeLine := by
    have := Paired.length r1
    rw [sizeLine_eq]
    omega
  refine wpAny_call (HandSPX.call_own F.excBase_ValueError (fun Y => HandSPX.refsVE_contains Y bm hbm) (I1.kIn _ _ hC) (looks_findIn I1.kIn iC) (fun self => bind_fn I1.kIn self tI) hus
    (codeAny_mono (F1.go _ X.stack _ _ ⟨Value.ref (hh.objs.size + 1) :: us, []⟩ (Value.ref (hh.objs.size + 1) :: us) _ _ (fun _ _ _ => False) (cl.made C us) (hr.make C us []) (I2.env0.make C us []) hb2 r2 hq) fun r s' hq' => ?_))
  match r, hq' with
  | .error er, z => exact hx pins σ _ _ er s' I2 z
  | .ok (.ret u), z =>
    obtain ⟨v, H2, J, rv, rfl, q2⟩ := I2.after z
    exact ⟨rv, .ref _, H2, J, rfl, q2⟩
end
end Any
set_option Elab.async false
set_option linter.all false
set_option maxRecDepth 100000
set_option maxHeartbeats 4000000
/-! Data of any depth, dicts within: how it is read, its repr, its place in an f-string. -/
namespace Any
open PySem PySem.Spec PyProof.Rows L2
/-- a key as data -/
def keyD : Key → PyData
  | .inl i => .int i
  | .inr x => .str x
mutual
inductive Dx (K : PySem.W.Frag) (H : Hp) : V → PyData → Prop
  | non : Dx K H .non .none
  | bl (b : Bool) : Dx K H (.bl b) (.bool b)
  | int (i : Int) : Dx K H (.int i) (.int i)
  | str (x : Str) : Dx K H (.str x) (.str x)
  | lst {a : Addr} {xs : List V} {ds : List PyData} (e : SqL K H a xs) (r : DxAll K H xs ds) : Dx K H (.ref a) (.list ds)
  | tup {a : Addr} {xs : List V} {ds : List PyData} (e : SqT K H a xs) (r : DxAll K H xs ds) : Dx K H (.ref a) (.tuple ds)
  | dct {a : Addr} {kvs : List (Key × V)} {ds : List (PyData × PyData)} (e : H a = some (.dK kvs)) (r : DxKv K H kvs ds) : Dx K H (.ref a) (.dict ds)
inductive DxAll (K : PySem.W.Frag) (H : Hp) : List V → List PyData → Prop
  | nil : DxAll K H [] []
  | cons {v : V} {vs : List V} {d : PyData} {ds : List PyData} (h : Dx K H v d) (r : DxAll K H vs ds) : DxAll K H (v :: vs) (d :: ds)
inductive DxKv (K : PySem.W.Frag) (H : Hp) : List (Key × V) → List (PyData × PyData) → Prop
  | nil : DxKv K H [] []
  | cons {k : Key} {v : V} {vs : List (Key × V)} {d : PyData} {ds : List (PyData × PyData)} (h : Dx K H v d) (r : DxKv K H vs ds) : DxKv K H ((k, v) :: vs) ((keyD k, d) :: ds)
end
/-- the written part holds the modules' dict -/
def SysD (K : PySem.W.Frag) : Prop := ∃ o : Obj, K.lookup sysModules = some o ∧ o.cls = .type "dict"
section
variable {X : Cx} {pins : List (Addr × Obj)} {σ : L2.St} {H : Hp} {s : Shared}
theorem not_sys (hS : SysD X.K) (I : Inv X pins σ H s) {a : Addr} {o : Obj} (e : s.heap.get? a = some o) (c : o.cls ≠ .type "dict") : ¬ sysModules = a := fun z => by
  obtain ⟨u, hu, hc⟩ := hS
  have q := I.kIn _ _ hu
  rw [z, e] at q
  cases q
  exact c hc
mutual
theorem Dx.reads (hS : SysD X.K) (I : Inv X pins σ H s) : ∀ (d : PyData) (v : V) (u : Value), Dx X.K H v d → RelV v u → ∃ as, Reads s.heap u d as ∧ sysModules ∉ as
  | .none, _, _, h, r => by
    cases h
    cases r
    exact ⟨_, Reads.none, List.not_mem_nil⟩
  | .bool b, _, _, h, r => by
    cases h
    cases r
    exact ⟨_, Reads.bool b, List.not_mem_nil⟩
  | .int i, _, _, h, r => by
    cases h
    obtain ⟨t, rfl⟩ := r
    exact ⟨_, Reads.int i t, List.not_mem_nil⟩
  | .str x, _, _, h, r => by
    cases h
    obtain ⟨t, rfl⟩ := r
    exact ⟨_, Reads.str x t, List.not_mem_nil⟩
  | .list ds, _, _, h, r => by
    cases h with
    | lst hs ha =>
      cases r
      obtain ⟨its, rv, ⟨o, n, ho, hc, _, hd⟩, _⟩ := I.list hs
      obtain ⟨as, hr, hn⟩ := Dx.readsAll hS I ds _ its ha rv
      exact ⟨_, Reads.list ho hc hd hr, fun m => (List.mem_cons.mp m).elim (not_sys hS I ho (by rw [hc]; intro z; injection z with z; revert z; decide)) hn⟩
  | .tuple ds, _, _, h, r => by
    cases h with
    | tup hs ha =>
      cases r
      obtain ⟨its, rv, ⟨o, ho, hc, n, hd⟩, _⟩ := I.tuple hs
      obtain ⟨as, hr, hn⟩ := Dx.readsAll hS I ds _ its ha rv
      exact ⟨_, Reads.tuple ho hc hd hr, hn⟩
  | .dict ds, _, _, h, r => by
    cases h with
    | dct e hr =>
      cases r
      obtain ⟨_, hb, vs, kv, dd⟩ := (show ObjOk X.prog X.w H s.heap _ (.dK _) from I.hok _ _ e)
      obtain ⟨as, p, hn⟩ := Dx.readsKv hS I ds _ vs hr kv
      refine ⟨_, PyProof.V.reads_dictOf (knd := mixKind X.prog X.w) (fun k key hk => ?_) dd p, fun m => (List.mem_cons.mp m).elim (fun z => ?_) hn⟩
      · rcases keyIs_shape hk with ⟨i, t, rfl, rfl⟩ | ⟨x, t, rfl, rfl⟩
        · exact Reads.int i t
        · exact Reads.str x t
      · rw [← z] at hb
        simp at hb
theorem Dx.readsAll (hS : SysD X.K) (I : Inv X pins σ H s) : ∀ (ds : List PyData) (vs : List V) (us : List Value), DxAll X.K H vs ds → Vals vs us → ∃ as, ReadsAll s.heap us ds as ∧ sysModules ∉ as
  | [], _, _, h, r => by
    cases h
    cases r
    exact ⟨_, ReadsAll.nil, List.not_mem_nil⟩
  | d :: ds, _, _, h, r => by
    cases h with
    | cons h1 h2 =>
      cases r with
      | cons r1 r2 =>
        obtain ⟨as, q1, n1⟩ := Dx.reads hS I d _ _ h1 r1
        obtain ⟨bs, q2, n2⟩ := Dx.readsAll hS I ds _ _ h2 r2
        exact ⟨_, ReadsAll.cons q1 q2, fun m => (List.mem_append.mp m).elim n1 n2⟩
theorem Dx.readsKv (hS : SysD X.K) (I : Inv X pins σ H s) : ∀ (ds : List (PyData × PyData)) (kvs : List (Key × V)) (vs : List (Key × Value)), DxKv X.K H kvs ds → KV kvs vs → ∃ as, PyProof.V.PairsRead s.heap keyD vs ds as ∧ sysModules ∉ as
  | [], _, _, h, r => by
    cases h
    cases r
    exact ⟨_, .nil, List.not_mem_nil⟩
  | (_, d) :: ds, _, (k', u) :: vs, h, r => by
    cases h with
    | cons h1 h2 =>
      cases r with
      | cons r1 r2 =>
        obtain ⟨e, r1⟩ := r1
        have e' := e
        dsimp only at e'
        subst e'
        obtain ⟨as, q1, n1⟩ := Dx.reads hS I d _ _ h1 r1
        obtain ⟨bs, q2, n2⟩ := Dx.readsKv hS I ds _ _ h2 r2
        exact ⟨_, .cons q1 q2, fun m => (List.mem_append.mp m).elim n1 n2⟩
  | (_, _) :: _, _, [], h, r => by
    cases h
    cases r
end
end
/-- repr(x) -/
def rRepr (K : PySem.W.Frag) : List V → Hp → VK → Prop := fun xs H Q => ∃ (x : V) (d : PyData), xs = [x] ∧ Dx K H x d ∧ d.showable = true ∧ d.depth ≤ 60 ∧ d.shown.length ≤ sizeLine ∧ Q (.str d.shown) H
theorem call_repr {X : Cx} (hS : SysD X.K) (cl : Clr X.A) (hu : X.A.units + 64 < cLine) : CallR X (.builtin "repr") (rRepr X.K) := by
  intro pins s σ H xs us Q I r h
  obtain ⟨x, d, rfl, hd, hs, hp, hz, q⟩ := h
  obtain ⟨u, rfl, ru⟩ := vals1 r
  obtain ⟨as, rd, hn⟩ := Dx.reads hS I d x u hd ru
  have fin : ∀ t tk, EP X pins σ Q (.str d.shown t) { s with toks := tk } := fun t tk => ⟨.str d.shown, H, I.tok tk, ⟨t, rfl⟩, q⟩
  cases rd with
  | none => exact PySem.P.repr_of_none (fin _ _)
  | bool b => exact PySem.P.repr_of_bool (by cases b <;> exact fin _ _)
  | int i t => exact PySem.P.repr_of_int (by simpa [PyData.showable] using hs) (fin _ _)
  | str y t => exact PySem.P.repr_of_str (fin _ _) hz
  | list h1 h2 h3 h4 => exact repr_of_reads' (.list h1 h2 h3 h4) hs (fun _ => hn) cl (by omega) (fun _ _ e => e) (fun h' t tk k => ⟨.str _, H, I.kept (t' := tk) k, ⟨t, rfl⟩, q⟩) hz
  | tuple h1 h2 h3 h4 => exact repr_of_reads' (.tuple h1 h2 h3 h4) hs (fun _ => hn) cl (by omega) (fun _ _ e => e) (fun h' t tk k => ⟨.str _, H, I.kept (t' := tk) k, ⟨t, rfl⟩, q⟩) hz
  | dict h1 h2 h3 h4 h5 => exact repr_of_reads' (.dict h1 h2 h3 h4 h5) hs (fun _ => hn) cl (by omega) (fun _ _ e => e) (fun h' t tk k => ⟨.str _, H, I.kept (t' := tk) k, ⟨t, rfl⟩, q⟩) hz
/-- {x} in an f-string: some text of at most n signs -/
def tFmtX (K : PySem.W.Frag) (n : Nat) (te : TE) : TE := fun σ H Q => te σ H fun x H1 => ∃ d : PyData, Dx K H1 x d ∧ d.showable = true ∧ d.depth ≤ 60 ∧ d.shown.length ≤ n ∧ n ≤ sizeLine ∧ (∀ y, d = .str y → y.length ≤ n) ∧ ∀ m : Str, m.length ≤ n → Q (.str m) H1
theorem pe_fmtX {X : Cx} {n : Nat} {e : Expr} {te : TE} {pos : Pos} (hS : SysD X.K) (cl : Clr X.A) (hu : X.A.units + 64 < cLine) (he : PE X e te) : PE X (.FormattedValue e (-1) none pos) (tFmtX X.K n te) := by
  refine ⟨fun pins s σ H Q I h => wpAny_FormattedValue_plain (thn (he.run pins s σ H _ I h) fun u s1 hv => ?_)⟩
  obtain ⟨x, H1, I1, ru, d, hd, hs, hp, hz, hn0, hy, q⟩ := hv
  obtain ⟨as, rd, hn⟩ := Dx.reads hS I1 d x u hd ru
  have fin : ∀ (m : Str) t tk, m.length ≤ n → EP X pins σ Q (.str m t) { s1 with toks := tk } := fun m t tk hm => ⟨.str m, H1, I1.tok tk, ⟨t, rfl⟩, q m hm⟩
  have hz2 := Nat.le_trans hz hn0
  cases rd with
  | none => exact wpAny_formatField_none (fin _ _ _ hz)
  | bool b => exact wpAny_formatField_bool (fin _ _ _ (by cases b <;> exact hz))
  | int i t => exact wpAny_formatField_int (by simpa [PyData.showable] using hs) (fin _ _ _ hz)
  | str y t => exact wpAny_formatField_str ⟨.str y, H1, I1, ⟨t, rfl⟩, q y (hy y rfl)⟩ (fin _ _ _ (hy y rfl)) (Nat.le_trans (hy y rfl) hn0)
  | list h1 h2 h3 h4 => exact formatField_of_reads (.list h1 h2 h3 h4) hs (fun _ => hn) cl (by omega) (fun _ _ e => e) (fun h' t tk k => ⟨.str _, H1, I1.kept (t' := tk) k, ⟨t, rfl⟩, q _ hz⟩) hz2
  | tuple h1 h2 h3 h4 => exact formatField_of_reads (.tuple h1 h2 h3 h4) hs (fun _ => hn) cl (by omega) (fun _ _ e => e) (fun h' t tk k => ⟨.str _, H1, I1.kept (t' := tk) k, ⟨t, rfl⟩, q _ hz⟩) hz2
  | dict h1 h2 h3 h4 h5 => exact formatField_of_reads (.dict h1 h2 h3 h4 h5) hs (fun _ => hn) cl (by omega) (fun _ _ e => e) (fun h' t tk k => ⟨.str _, H1, I1.kept (t' := tk) k, ⟨t, rfl⟩, q _ hz⟩) hz2
end Any
set_option Elab.async false
set_option linter.all false
set_option maxRecDepth 100000
set_option maxHeartbeats 4000000
/-! An error that a try keeps by a name of its own: what follows the try knows it. -/
namespace Any
open PySem PySem.Spec PySem.W PyProof.Rows L2
/-- {x} in an f-string, x None -/
def tFmtN (te : TE) : TE := fun σ H Q => te σ H fun x H1 => x = .non ∧ Q (.str PyData.none.shown) H1
theorem pe_fmtN {X : Cx} {e : Expr} {te : TE} {pos : Pos} (he : PE X e te) : PE X (.FormattedValue e (-1) none pos) (tFmtN te) := by
  refine ⟨fun pins s σ H Q I h => wpAny_FormattedValue_plain (thn (he.run pins s σ H _ I h) fun u s1 hv => ?_)⟩
  obtain ⟨x, H1, I1, ru, rfl, q⟩ := hv
  cases (show u = Value.none from ru)
  exact wpAny_formatField_none ⟨.str _, H1, I1.tok _, ⟨_, rfl⟩, q⟩
/-- what the clause 'except x as n' wishes, where what follows the try knows the error by its pin -/
def wKeep (K : PySem.W.Frag) (c : Value) (i : Nat) (ts trP : Addr → Value → Option Addr → TS) (Wout : WX) (D : Ends) : WX := fun cls d σ H =>
  ∃ b, PySem.W.exmOne K cls c = some b ∧ (b = true → ∀ a, H a = none → ts a cls d { nx := fun σ' H' => H' a = none → trP a cls d D (σ'.set i none) H', rt := D.rt, bk := fun σ' H' => D.bk (σ'.set i none) H', ct := fun σ' H' => D.ct (σ'.set i none) H' } (σ.set i (some (.ref a))) H) ∧
    (b = false → Wout cls d σ H)
section
variable {X : Cx} {L pins : List (Addr × Obj)} {σ : L2.St} {H : Hp} {s : Shared} {a : Addr} {q : Addr × Obj} {xe : Value → Shared → Prop}
/-- what holds in the suite holds behind it, the pins kept -/
theorem behind (I : Inv (X.suite a L) [] σ H s) (ok : X.Ok) : Inv (X.tr L xe) [] σ H s where
  ok := ok.toTry _ _
  os := I.os
  bare := I.bare
  base := I.base
  loc := I.loc
  cell := I.cell
  free := I.free
  freeC := I.freeC
  pin := I.pin
  hok := I.hok
  len := I.len
/-- .. and without the first pin in the def at large -/
theorem forget (I : Inv (X.tr (q :: (X.pn ++ pins)) xe) [] σ H s) (ok : X.Ok) : Inv X pins σ H s where
  ok := ok
  os := I.os
  bare := I.bare
  base := I.base
  loc := I.loc
  cell := I.cell
  free := I.free
  freeC := I.freeC
  pin := fun p m => I.pin p (by simp only [List.append_nil]; exact List.mem_cons_of_mem _ m)
  hok := I.hok
  len := I.len
/-- the ends of a block under more pins are its ends -/
theorem forgetSP {D : Ends} {fl : Flow} (ok : X.Ok) (h : SP (X.tr (q :: (X.pn ++ pins)) xe) [] D fl s) : SP X pins D fl s := by
  cases fl with
  | ret u => exact let ⟨v, σ', H', I, r, z⟩ := h; ⟨v, σ', H', forget I ok, r, z⟩
  | _ => exact let ⟨σ', H', I, z⟩ := h; ⟨σ', H', forget I ok, z⟩
/-- an error on the ground: the def's state with it pinned, the suite's too -/
theorem grounded {sI : Shared} {h : Heap} {B : Heap} {cls : Value} {d : Option Addr} (onTop : X.stack = X.env :: X.outer) (frm : X.env.frame = some X.env.locals) (I : Inv X pins σ H sI) (kept : ∀ b o, sI.heap.get? b = some o → b ∉ frs X.stack → B.get? b = some o)
    (fl : PySem.HandSPX.FlyingZ B (X.env :: X.outer) a (Zc cls d) h) (up : sI.heap.UpToSlots h) (new : H a = none) (os : s.os = sI.os) (bare : AllBare s.gens) :
    ∃ oe : Obj, h.get? a = some oe ∧ Zc cls d oe ∧ (∃ vs, oe.data = .fields vs) ∧ Inv X pins σ H { s with heap := h } ∧ Inv (X.suite a ((a, oe) :: (X.pn ++ pins))) [] σ H { s with heap := h } := by
  obtain ⟨oe, vs, at_, z, dat⟩ := fl.there
  have apart : ∀ env ∈ X.env :: X.outer, env.frame ≠ some a := fun env m e => by
    obtain ⟨_, u, eu, no⟩ := fl.2.2.1.mem (List.mem_filterMap.mpr ⟨env, m, e⟩)
    cases at_.symm.trans eu
    exact no _ dat
  have J := I.landed (s' := { s with heap := h }) kept fl.1 up os bare
  refine ⟨oe, at_, z, ⟨vs, dat⟩, J, J.suite at_ dat new (fun e => apart X.env (List.mem_cons_self ..) (by rw [frm, e])) fun m => ?_⟩
  obtain ⟨env, me, e⟩ := List.mem_filterMap.mp m
  exact apart env (List.mem_cons_of_mem _ me) e
/-- the class that the clause names, looked up in the suite's state -/
theorem clause_class {x : Str} {c : Value} {np : Pos} {Q E : Value → Shared → Prop} (hc : Names X x c) (I : Inv (X.suite a L) [] σ H s) (q : Q c s) : wpAny (model X.prog X.w) (X.A.mark (some (.ref a))) (eval (.Name x np) X.env) Q E s := by
  obtain ⟨g, db, own | ⟨no, blt, nn⟩⟩ := hc
  · exact ld_glob (X := X.suite a L) I g own q db
  · exact ld_blt (X := X.suite a L) I g no blt q nn db
end
/-- behind a try: the next row, or an end -/
def Onward (X : Cx) (pins : List (Addr × Obj)) (rest : List Stmt) (D : Ends) : Flow → Shared → Prop
  | .next, s => wpAny (model X.prog X.w) X.A (execs rest X.env) (SP X pins D) X.xe s
  | .brk, s => SP X pins D .brk s
  | .cont, s => SP X pins D .cont s
  | .ret u, s => SP X pins D (.ret u) s
section
variable {X : Cx} {x n : Str} {c : Value} {i : Nat} {body suite rest : List Stmt} {b₀ : Stmt} {np pos pos' : Pos} {tb : WX → TS} {ts trP : Addr → Value → Option Addr → TS} {tr : TS} {Wout : WX}
/-- the clause's work on an error in the air -/
theorem caught_as {pins : List (Addr × Obj)} {u : Value} {s : Shared} {D : Ends} (ok : X.Ok) (onTop : X.stack = X.env :: X.outer) (frm : X.env.frame = some X.env.locals) (nd : X.N.Nodup) (at_ : X.N[i]? = some n) (loc : X.env.kindOf n = some .local) (hc : Names X x c) (tk : Takes X Wout)
    (inSuite : ∀ (a : Addr) (oe : Obj) (cls : Value) (d : Option Addr) (pn : List (Addr × Obj)), Zc cls d oe → (∃ vs, oe.data = .fields vs) → PSs (X.suite a ((a, oe) :: pn)) (b₀ :: suite) (ts a cls d))
    (then_ : ∀ (a : Addr) (oe : Obj) (cls : Value) (d : Option Addr) (pn : List (Addr × Obj)), Zc cls d oe → (∃ vs, oe.data = .fields vs) → PSs (X.tr ((a, oe) :: pn) X.xe) rest (trP a cls d))
    (air : XE (X.tr (X.pn ++ pins) fun e s₁ => wpAny (model X.prog X.w) X.A (noteFrame e X.env) (fun _ s₂ => wpAny (model X.prog X.w) X.A (setFlight e none) (fun _ s₃ => wpAny (model X.prog X.w) X.A (handleBy e X.env [.ExceptHandler (some (.Name x np)) (some n) (b₀ :: suite) pos']) (Onward X pins rest D) X.xe s₃) X.xe s₂) X.xe s₁)
      (wKeep X.K c i ts trP Wout D) u s) :
    wpAny (model X.prog X.w) X.A (noteFrame u X.env) (fun _ s₂ => wpAny (model X.prog X.w) X.A (setFlight u none) (fun _ s₃ => wpAny (model X.prog X.w) X.A (handleBy u X.env [.ExceptHandler (some (.Name x np)) (some n) (b₀ :: suite) pos']) (Onward X pins rest D) X.xe s₃) X.xe s₂) X.xe s := by
  obtain ⟨a, B, sI, pins', σ, H, cls, d, eu, I', kept, up, sky, new, os, bare, b, is_, yes, no⟩ := air
  subst eu
  have I : Inv X pins σ H sI := I'.ofTry ok
  have tops : X.A.frames = some (X.env :: X.outer) := ok.frames.trans (by rw [onTop])
  refine Sky.land (Z := Zc cls d) Zc.steady tops frm (onTop ▸ sky) fun h fly up1 => ?_
  obtain ⟨o1, at1, z1, _, J1, S1⟩ := grounded (s := s) onTop frm I kept fly (up.trans up1) new os bare
  have looks : PySem.W.Looks (model X.prog X.w) h (typeOf (.ref a)) cls := fun _ _ _ _ same q => wpAny_typeOf_ref (same a o1 at1) (z1.1 ▸ q)
  refine wpAny_handleBy_cons (codeAny_handlers_test (clause_class hc S1 ((PySem.W.exm_one (M := model X.prog X.w) J1.kIn looks is_).here ?_))) fun z => nomatch z
  cases b with
  | false =>
    refine (show wpAny (model X.prog X.w) X.A (handleBy (.ref a) X.env []) _ _ _ from wpAny_handleBy_nil ?_)
    have out : wpAny (model X.prog X.w) X.A (setFlight (.ref a) X.env.frame) (fun _ s4 => wpAny (model X.prog X.w) X.A (throw (.ref a) : Sem Flow) (Onward X pins rest D) X.xe s4) X.xe { s with heap := h } := by
      rw [frm]
      exact PySem.HandSPX.setFlight_upZ fly fun h2 held up2 => wpAny_throw (tk _ _ ⟨a, B, sI, pins, σ, H, cls, d, rfl, I, kept, (up.trans up1).trans up2, .inr (.inr (onTop ▸ held)), new, os, bare, no rfl⟩)
    obtain ⟨_, _, _, o, vs, T, _, _, ao, _, dat, v1, _⟩ := id fly
    unfold PySem.passOn
    refine wpAny_bind (wpAny_field ao dat v1 ?_)
    have some_ : (Value.ref T == Value.none) = false := rfl
    simp only [some_, Bool.false_eq_true, if_false]
    first
      | exact wpAny_bind out
      | exact wpAny_bind (wpAny_pure (wpAny_bind out))
  | true =>
    refine codeAny_handlers_suite_as (PySem.HandSPX.lands_againZ fly fun h2 fly2 up2 => ?_)
    obtain ⟨o2, _, z2, dat2, _, S2⟩ := grounded (s := s) onTop frm I kept fly2 ((up.trans up1).trans up2) new os bare
    refine store_ok (X := X.suite a ((a, o2) :: (X.pn ++ pins))) (v := .ref a) S2 nd at_ (.inl loc) rfl (fun s5 S5 => ?_) (.inr loc)
    refine wpAny_mono ((inSuite a o2 cls d (X.pn ++ pins) z2 dat2).run [] s5 _ H _ S5 (yes rfl a new)) (fun fl s6 q => ?_) fun _ _ z => z.elim
    have gone : ∀ {σ6 : L2.St} {H6 : Hp} {Q : Shared → Prop}, Inv (X.suite a ((a, o2) :: (X.pn ++ pins))) [] σ6 H6 s6 → (∀ s7, Inv (X.tr ((a, o2) :: (X.pn ++ pins)) X.xe) [] (σ6.set i none) H6 s7 → Q s7) →
        wpAny (model X.prog X.w) X.A (do bindName X.env n .none; unbindBehindTheSuite X.env n pos') (fun _ => Q) X.xe s6 := fun S k => gone_ok (X := X.tr ((a, o2) :: (X.pn ++ pins)) X.xe) (behind S ok) nd at_ loc k
    cases fl with
    | next =>
      obtain ⟨σ6, H6, S6, k⟩ := q
      refine gone S6 fun s7 J7 => wpAny_mono ((then_ a o2 cls d (X.pn ++ pins) z2 dat2).run [] s7 _ H6 D J7 (k (S6.pin (a, o2) (List.mem_cons_self ..)).2.1)) (fun _ _ z => forgetSP ok z) fun _ _ z => z
    | ret v => exact let ⟨y, σ6, H6, S6, r, k⟩ := q; gone S6 fun _ J7 => ⟨y, _, _, forget J7 ok, r, k⟩
    | _ => exact let ⟨σ6, H6, S6, k⟩ := q; gone S6 fun _ J7 => ⟨_, _, forget J7 ok, k⟩
/-- try: body / except x as n: suite / rest, the rest knowing the error by its pin -/
theorem pss_try_keep (onTop : X.stack = X.env :: X.outer) (frm : X.env.frame = some X.env.locals) (nd : X.N.Nodup) (at_ : X.N[i]? = some n) (loc : X.env.kindOf n = some .local) (hc : Names X x c) (tk : Takes X Wout)
    (inBody : ∀ (W : WX) (pn : List (Addr × Obj)) (xe : Value → Shared → Prop), Takes (X.tr pn xe) W → PassesOwn (model X.prog X.w) X.A X.env xe → PSs (X.tr pn xe) body (tb W))
    (inSuite : ∀ (a : Addr) (oe : Obj) (cls : Value) (d : Option Addr) (pn : List (Addr × Obj)), Zc cls d oe → (∃ vs, oe.data = .fields vs) → PSs (X.suite a ((a, oe) :: pn)) (b₀ :: suite) (ts a cls d))
    (plain : PSs X rest tr)
    (then_ : ∀ (a : Addr) (oe : Obj) (cls : Value) (d : Option Addr) (pn : List (Addr × Obj)), Zc cls d oe → (∃ vs, oe.data = .fields vs) → PSs (X.tr ((a, oe) :: pn) X.xe) rest (trP a cls d)) :
    PSs X (.Try body [.ExceptHandler (some (.Name x np)) (some n) (b₀ :: suite) pos'] [] [] pos :: rest) (fun D σ H => tb (wKeep X.K c i ts trP Wout D) { D with nx := tr D } σ H) := by
  refine ⟨fun pins s σ H D I reading => wpAny_execs_cons (wpAny_mono (Q := Onward X pins rest D) ?_ (fun fl s1 q => ?_) fun _ _ z => z)⟩
  · have ok := I.ok
    refine wpAny_Try_except (wpAny_mono ((inBody (wKeep X.K c i ts trP Wout D) (X.pn ++ pins) (fun e s₁ => wpAny (model X.prog X.w) X.A (noteFrame e X.env) (fun _ s₂ => wpAny (model X.prog X.w) X.A (setFlight e none) (fun _ s₃ =>
      wpAny (model X.prog X.w) X.A (handleBy e X.env [.ExceptHandler (some (.Name x np)) (some n) (b₀ :: suite) pos']) (Onward X pins rest D) X.xe s₃) X.xe s₂) X.xe s₁) (fun u s' air => caught_as ok onTop frm nd at_ loc hc tk inSuite then_ air) PassesOwn.looking).run [] s σ H { D with nx := tr D } (I.toTry _) reading) (fun fl s1 q => ?_) fun _ _ z => z)
    cases fl with
    | next => exact let ⟨σ1, H1, I1, k⟩ := q; wpAny_execs_nil (plain.run pins s1 σ1 H1 D (I1.ofTry ok) k)
    | ret v => exact let ⟨y, σ1, H1, I1, r, k⟩ := q; ⟨y, σ1, H1, I1.ofTry ok, r, k⟩
    | _ => exact let ⟨σ1, H1, I1, k⟩ := q; ⟨σ1, H1, I1.ofTry ok, k⟩
  · cases fl <;> exact q
end
/-! ### the pinned error is asked and read -/
section
variable {X : Cx} {a C dd : Addr} {oe : Obj} {d : Option Addr} {cls : Value} {pn : List (Addr × Obj)} {xe : Value → Shared → Prop}
theorem pin_inst {pins : List (Addr × Obj)} {σ : L2.St} {H : Hp} {s : Shared} {fs : List (Str × V)} (I : Inv (X.tr ((a, oe) :: pn) xe) pins σ H s) (hz : Zc cls d oe) (hf : ∃ vs, oe.data = .fields vs) (ec : cls = .ref C) (ed : d = some dd) (e : H dd = some (.xd fs)) :
    ∃ od, InstAt s.heap a oe C (some od) ∧ ∀ f v, fs.lookup f = some v → ∃ u, lookIn f od = some (some u) ∧ RelV v u := by
  subst ec ed
  obtain ⟨ha, _⟩ := I.pin (a, oe) (List.mem_append_left _ List.mem_cons_self)
  obtain ⟨vs, hd⟩ := hf
  have hx : ObjOk X.prog X.w H s.heap dd (.xd fs) := I.hok dd _ e
  obtain ⟨mA, hns, hr⟩ := hx
  obtain ⟨od, ho, hl⟩ := lookIn_ns hns
  refine ⟨od, ⟨ha, hz.1, by unfold PySem.W.notCls; rw [hd], by rw [hz.2]; exact ho⟩, fun f v q => ?_⟩
  obtain ⟨u, hu, ru⟩ := RelO.some_of (v := v) (o := mA f) (by rw [← q]; exact hr f)
  exact ⟨u, by rw [hl, hu], ru⟩
/-- isinstance(error, c) -/
def rIsPin (K : Frag) (a : Addr) (cls : Value) (d : Option Addr) : List V → Hp → VK → Prop := fun xs H Q => ∃ (C dd : Addr) (fs : List (Str × V)) (c : V) (u : Value) (b : Bool), xs = [.ref a, c] ∧ cls = .ref C ∧ d = some dd ∧ H dd = some (.xd fs) ∧ ErrC K C ∧ ClsV c u ∧ kitOne K (.ref C) u = some b ∧ Q (.bl b) H
theorem call_isPin (hz : Zc cls d oe) (hf : ∃ vs, oe.data = .fields vs) : CallR (X.tr ((a, oe) :: pn) xe) (.builtin "isinstance") (rIsPin X.K a cls d) := by
  intro pins s σ H xs us Q I r h
  obtain ⟨C, dd, fs, c, u, b, rfl, ec, ed, e, T, k, ek, q⟩ := h
  obtain ⟨u1, u2, rfl, r1, r2⟩ := vals2 r
  cases (show u1 = Value.ref a from r1)
  cases k.eq r2
  obtain ⟨od, J, _⟩ := pin_inst I hz hf ec ed e
  exact kia_one (T.kit (x := a) (ox := oe) (od := some od)) I.kIn J ek (fun z => nomatch z) fun tk => ⟨.bl b, H, I.tok tk, rfl, q⟩
/-- error.f -/
def tPinF (K : Frag) (a : Addr) (cls : Value) (d : Option Addr) (te : TE) (f : Str) : TE := fun σ H Q => te σ H fun x H1 => ∃ (C dd : Addr) (fs : List (Str × V)) (v : V), x = .ref a ∧ cls = .ref C ∧ d = some dd ∧ H1 dd = some (.xd fs) ∧ ErrC K C ∧ findIn K (.ref C) f = some none ∧ fs.lookup f = some v ∧ Q v H1
theorem pe_pinF {e : Expr} {te : TE} {f : Str} {pos : Pos} (hz : Zc cls d oe) (hf : ∃ vs, oe.data = .fields vs) (he : PE (X.tr ((a, oe) :: pn) xe) e te) (hb : attributeBase e f X.env (eval e X.env) = eval e X.env := by rfl) :
    PE (X.tr ((a, oe) :: pn) xe) (.Attribute e f pos) (tPinF X.K a cls d te f) := by
  refine ⟨fun pins s σ H Q I h => attr_of hb (thn (he.run pins s σ H _ I h) fun u s1 hh => ?_)⟩
  obtain ⟨x, H1, I1, rx, C, dd, fs, v, rfl, ec, ed, e, T, hno, hl, q⟩ := hh
  cases (show u = Value.ref a from rx)
  obtain ⟨od, J, hlk⟩ := pin_inst I1 hz hf ec ed e
  obtain ⟨u, hlo, ru⟩ := hlk f v hl
  exact PySem.HandSPX.exc_get I1.kIn J T.hg T.hk T.hs (findObj_own T.hd hno rfl hlo) (handed_of ru) ⟨v, H1, I1.tok _, ru, q⟩
end
end Any
set_option Elab.async false
set_option linter.all false
set_option maxRecDepth 100000
set_option maxHeartbeats 4000000
/-! A head whose facts are one Bool over the written part, and the defs of the text. -/
namespace Any
open PySem PySem.Spec PyProof.Rows L2
open He (ga ma)
/-- what the head reads -/
def adrs (g : Addr → Option Obj) (n : Nat) : List Addr := sysModules :: cStatics :: He.asD g n
abbrev AlX : Type := Bool × List He.FnW
def obsX (chk : PySem.W.Frag → Bool) (fn : List He.DefD) (K : PySem.W.Frag) : AlX := (chk K && fn.all fun d => d.ok K, fn.map fun d => He.fnW K d.at_)
def valX (fn : List He.DefD) : AlX := (true, fn.map He.DefD.val)
def hookX (n : Nat) (chk : PySem.W.Frag → Bool) (fn : List He.DefD) : PySem.W.Hook where
  α := AlX
  obs := fun s => obsX chk fn (He.frG s.heap.get? (adrs s.heap.get? n))
  val := fun _ => valX fn
  says := fun _ h => ∃ K : PySem.W.Frag, K.In h ∧ obsX chk fn K = valX fn
  of := fun _ _ e => ⟨_, He.frG_in, e⟩
  keeps := fun _ _ _ ⟨K, hK, c⟩ k => ⟨K, PySem.W.Frag.In.keeps hK k, c⟩
theorem obsX_eq {n : Nat} {chk : PySem.W.Frag → Bool} {fn : List He.DefD} (s : PySem.W.SharedT) : obsX chk fn (He.frG (HandSHeadRun.getT s) (adrs (HandSHeadRun.getT s) n)) = (hookX n chk fn).obs s.abs := by
  have e : HandSHeadRun.getT s = s.abs.heap.get? := funext (HandSHeadRun.getT_eq s)
  rw [e]
  rfl
section
variable {chk : PySem.W.Frag → Bool} {fn : List He.DefD} {K : PySem.W.Frag}
theorem saysX_chk (c : obsX chk fn K = valX fn) : chk K = true := (Bool.and_eq_true_iff.mp (congrArg (fun z : AlX => z.1) c : (chk K && fn.all fun d => d.ok K) = true)).1
theorem saysX_def (c : obsX chk fn K = valX fn) (i : Nat) {d : He.DefD} (h : fn[i]? = some d := by rfl) : ∃ fd, L2.FunD K d.name d.qual d.params d.body d.scope (d.dvs K) (d.kws K) (He.fAd K d.at_) fd := by
  have c1 := (Bool.and_eq_true_iff.mp (congrArg (fun z : AlX => z.1) c : (chk K && fn.all fun d => d.ok K) = true)).2
  have e : fn.map (fun d => He.fnW K d.at_) = fn.map He.DefD.val := congrArg (fun z : AlX => z.2) c
  have e2 : (fn.map fun d => He.fnW K d.at_)[i]? = (fn.map He.DefD.val)[i]? := by rw [e]
  rw [List.getElem?_map, List.getElem?_map, h] at e2
  exact He.DefD.funD (Option.some.inj e2) (List.all_eq_true.mp c1 d (List.mem_of_getElem? h))
end
/-- a def of the text, without defaults -/
def defD (at_ : Str × Option Str) (x q : Str) (st : Stmt) : He.DefD := ⟨at_, x, q, defArgs st, defBody st, defScope st, [], []⟩
theorem fun_ofD {K : PySem.W.Frag} {x q : Str} {st : Stmt} {f : Addr} {fd : FuncData} (F : L2.FunD K x q (defArgs st) (defBody st) (defScope st) [] [] f fd) : Fun K x q st f fd := by
  obtain ⟨oc, od, dV, kV, doc, pm, an, cdv, ct, osl, e, lk, hc, hd, _⟩ := F.ex
  rcases hd with ⟨_, rfl⟩ | ⟨z, _⟩
  · exact ⟨⟨oc, od, kV, doc, pm, an, cdv, ct, osl, e, lk, hc⟩, F.kp⟩
  · exact absurd rfl z
/-! ### facts as Bools -/
section
variable {K : PySem.W.Frag}
theorem band {a b : Bool} (h : (a && b) = true) : a = true ∧ b = true := Bool.and_eq_true_iff.mp h
def sysB (K : PySem.W.Frag) : Bool := match K.lookup sysModules with
  | some o => decide (o.cls = .type "dict")
  | none => false
theorem sysB_ok (h : sysB K = true) : SysD K := by
  unfold sysB at h
  cases e : K.lookup sysModules with
  | none =>
    rw [e] at h
    cases h
  | some o =>
    rw [e] at h
    exact ⟨o, e, of_decide_eq_true h⟩
def errB (K : PySem.W.Frag) (D : Addr) : Bool :=
  He.eqO (PySem.W.findIn K (.ref D) "__getattribute__") (some (some (.builtin "BaseException.__getattribute__"))) && (He.eqO (PySem.W.findIn K (.ref D) "__getattr__") (some none) &&
    (decide (PySem.W.subIn K (.ref D) (.type "BaseException") = some true) && (PySem.W.hasDictIn K D && (He.eqO (PySem.W.findIn K (.ref D) "__class__") (some (some (.builtin "object.__class__"))) &&
      (He.eqO (PySem.W.specialIn K (.builtin "object.__class__") "__get__") (some (some (.builtin "getset_descriptor.__get__"))) && (decide (PySem.W.takesIn K (.builtin "object.__class__") = some true) && decide (PySem.W.mroIn K D (.type "object") = some true)))))))
theorem errB_ok {D : Addr} (h : errB K D = true) : ErrC K D := by
  obtain ⟨h1, h⟩ := band h
  obtain ⟨h2, h⟩ := band h
  obtain ⟨h3, h⟩ := band h
  obtain ⟨h4, h⟩ := band h
  obtain ⟨h5, h⟩ := band h
  obtain ⟨h6, h⟩ := band h
  obtain ⟨h7, h8⟩ := band h
  exact ⟨He.eqO_ok h1, He.eqO_ok h2, of_decide_eq_true h3, h4, He.eqO_ok h5, He.eqO_ok h6, of_decide_eq_true h7, of_decide_eq_true h8⟩
def oexB (K : PySem.W.Frag) (C : Addr) : Bool := (match K.lookup C with
  | some ⟨.type t, _, .cls cd, sl⟩ => decide (t = "type") && (match cd.mro, sl.toList with
    | .ref C' :: bm, [_, _, _, _, some (.builtin n), _] => decide (C' = C) && (decide (n = "ValueError.__new__") && (!cd.hasDel && (cd.hasDict && HandSPX.refsVE bm)))
    | _, _ => false)
  | _ => false) && (He.eqO (PySem.W.findIn K (.ref C) "__setattr__") (some (some (.builtin "object.__setattr__"))) && (decide (PySem.W.subIn K (.ref C) (.type "BaseException") = some true) &&
    (decide (PySem.W.typeIn K (.ref C) = some (.type "type")) && PySem.W.keepIn K (.ref C))))
theorem oexB_ok {C : Addr} (h : oexB K C = true) : OexC K C := by
  obtain ⟨h1, h⟩ := band h
  obtain ⟨h2, h⟩ := band h
  obtain ⟨h3, h⟩ := band h
  obtain ⟨h4, h5⟩ := band h
  refine ⟨?_, He.eqO_ok h2, of_decide_eq_true h3, of_decide_eq_true h4, h5⟩
  cases e : K.lookup C with
  | none =>
    rw [e] at h1
    cases h1
  | some o =>
    rw [e] at h1
    obtain ⟨oc, od, dt, sl⟩ := o
    cases oc with
    | type t =>
      cases dt with
      | cls cd =>
        obtain ⟨nm, bs, mro, ns, qn, hd, sn, sb, ab, col, del⟩ := cd
        obtain ⟨ht, h1⟩ := band h1
        cases of_decide_eq_true ht
        dsimp only at h1
        obtain ⟨sl⟩ := sl
        split at h1
        · rename_i C' bm k0 k1 k2 k3 n k5 hs _
          obtain ⟨_, h1⟩ := band h1
          obtain ⟨q1, h1⟩ := band h1
          obtain ⟨q2, h1⟩ := band h1
          obtain ⟨q3, h1⟩ := band h1
          obtain ⟨q4, q5⟩ := band h1
          cases of_decide_eq_true q1
          cases of_decide_eq_true q2
          have q3' : del = false := by simpa using q3
          have q4' : hd = true := q4
          subst q3' q4'
          have hs' : sl = [k0, k1, k2, k3, some (.builtin "ValueError.__new__"), k5] := hs
          subst hs'
          exact ⟨nm, qn, ns, bs, bm, sn, sb, ab, col, od, k0, k1, k2, k3, k5, rfl, q5⟩
        · cases h1
      | _ => cases h1
    | _ => cases h1
def baseB (K : PySem.W.Frag) (M : Addr) : Bool := PySem.W.readsIn K M (.type "type") && ((match PySem.W.findCls K (.ref M) (.type "type") "__init__" with
  | some (.val v) => decide (v = .builtin "ValueError.__init__")
  | _ => false) && He.eqO (PySem.W.specialIn K (.ref M) "__getattribute__") (some (some (.builtin "type.__getattribute__"))))
theorem baseB_ok {M : Addr} (h : baseB K M = true) : BaseI K M := by
  obtain ⟨h1, h⟩ := band h
  obtain ⟨h2, h3⟩ := band h
  refine ⟨h1, ?_, He.eqO_ok h3⟩
  cases e : PySem.W.findCls K (.ref M) (.type "type") "__init__" with
  | none =>
    rw [e] at h2
    cases h2
  | some c =>
    rw [e] at h2
    cases c with
    | val v => rw [of_decide_eq_true h2]
    | get g a o t => cases h2
end
end Any
set_option Elab.async false
set_option linter.all false
set_option maxRecDepth 100000
set_option maxHeartbeats 4000000
/-! Defs by their names; written dicts; data. -/
namespace Any
open PySem PySem.Spec PyProof.Rows L2
open He (ga ma)
/-- a def of the text stands under its name -/
structure At (K : PySem.W.Frag) (mg : Str → Option Value) (nm : Str) (st : Stmt) : Prop where
  ex : ∃ fd, Fun K nm nm st (ga K nm) fd
  g : mg nm = some (.ref (ga K nm))
/-- .. and keeps a promise -/
structure Has (P : Program) (w : World) (K : PySem.W.Frag) (mg : Str → Option Value) (base : Heap) (CX : CXT) (nm : Str) (st : Stmt) (ps : List Str) (k : Nat) (sp : Sp) : Prop where
  ex : ∃ fd, Fun K nm nm st (ga K nm) fd ∧ FnOk P w K mg base CX k (ga K nm) fd ps sp ∧ Binds K fd ps []
  g : mg nm = some (.ref (ga K nm))
  kp : PySem.W.keepIn K (.ref (ga K nm)) = true
section
variable {P : Program} {w : World} {K : PySem.W.Frag} {mg : Str → Option Value} {base : Heap}
theorem Has.mk0 {nm : Str} {st : Stmt} {N ps : List Str} {k : Nat} {sp : Sp} (D : At K mg nm st) (S : FnScope N ps (defScope st))
    (hb : ∀ (kV doc pm : Value) (an : Option Addr) (cdv ct : Value) (us : List Value), us.length = ps.length → bindArgs (PySem.W.fnOf nm nm (defArgs st) (defBody st) (defScope st) .none kV doc pm an cdv ct) ⟨us, []⟩ = pure (ps.zip us))
    (len : ∀ vs H Q E, sp vs H Q E → vs.length = ps.length)
    (body : ∀ (cdv : Value) (A : Around) (outer : List Env) (s : Shared) (H : Hp) (vs : List V) (Q : VK) (E : XK), Room k (A.deeper (envOfC nm (defScope st) s.heap.objs.size (ga K nm) cdv)) → sp vs H Q E →
      ∃ t, PSs (cxOf CX0 P w K mg base N nm (defScope st) (ga K nm) cdv A outer s H E).nox (defBody st) t ∧ t { nx := fun _ H' => Q .non H', rt := Q } (start N vs) H) : Has P w K mg base CX0 nm st ps (k + 1) sp := by
  obtain ⟨fd, F⟩ := D.ex
  exact ⟨⟨fd, F, F.ok S len body, F.binds hb⟩, D.g, F.kp⟩
theorem Has.mono {CX : CXT} {nm : Str} {st : Stmt} {ps : List Str} {j k : Nat} {sp : Sp} (h : Has P w K mg base CX nm st ps j sp) (hk : j ≤ k) : Has P w K mg base CX nm st ps k sp := by
  obtain ⟨⟨fd, F, G, b⟩, g, kp⟩ := h
  exact ⟨⟨fd, F, G.mono hk, b⟩, g, kp⟩
theorem Has.imp {CX : CXT} {nm : Str} {st : Stmt} {ps : List Str} {k : Nat} {sp sp' : Sp} (h : Has P w K mg base CX nm st ps k sp) (hs : ∀ vs H Q E, sp' vs H Q E → sp vs H Q E) : Has P w K mg base CX nm st ps k sp' := by
  obtain ⟨⟨fd, F, G, b⟩, g, kp⟩ := h
  exact ⟨⟨fd, F, G.imp hs, b⟩, g, kp⟩
end
section
variable {X : Cx} {CX : CXT} {nm : Str} {st : Stmt} {ps : List Str} {k : Nat} {sp : Sp} {E : XK} {p pos : Pos} {e : Expr} {es : List Expr} {t : TA}
theorem pe_fnX (h : Has X.prog X.w X.K X.mg X.base CX nm st ps k sp) (hr : Room k X.A) (hg : Gl X nm) (hx : Passes CX X E) (ha : PA X (e :: es) t)
    (hdb : (nm == ("__debug__" : Str)) = false := by decide) (he : starEach (e :: es) X.env = (false, eval e X.env) :: starEach es X.env := by rfl) (hpl : (backTo pos (starEach es X.env)).any (·.1) = false := by rfl) :
    PE X (.Call (.Name nm p) (e :: es) [] pos) (tCall sp [] E t) := by
  obtain ⟨⟨fd, F, G, b⟩, g, kp⟩ := h
  exact pe_call G hr hg g kp b .nil hx ha hdb he hpl
theorem pe_fn (h : Has X.prog X.w X.K X.mg X.base CX0 nm st ps k sp) (hr : Room k X.A) (hg : Gl X nm) (ha : PA X (e :: es) t)
    (hdb : (nm == ("__debug__" : Str)) = false := by decide) (he : starEach (e :: es) X.env = (false, eval e X.env) :: starEach es X.env := by rfl) (hpl : (backTo pos (starEach es X.env)).any (·.1) = false := by rfl) :
    PE X (.Call (.Name nm p) (e :: es) [] pos) (tCall sp [] E0 t) := pe_fnX h hr hg pass0 ha hdb he hpl
theorem pe_fn0 (h : Has X.prog X.w X.K X.mg X.base CX0 nm st ps k sp) (hr : Room k X.A) (hg : Gl X nm)
    (hdb : (nm == ("__debug__" : Str)) = false := by decide) : PE X (.Call (.Name nm p) [] [] pos) (tCall sp [] E0 tNil) := by
  obtain ⟨⟨fd, F, G, b⟩, g, kp⟩ := h
  exact pe_call0 G hr hg g kp b .nil pass0 hdb
end
/-! ### rules with the written part named, for the blocks of comprehensions -/
section
variable {X : Cx} {K : PySem.W.Frag}
def rLenQ (K : PySem.W.Frag) : List V → Hp → VK → Prop := fun xs H Q => ∃ p ys, xs = [V.ref p] ∧ (SqL K H p ys ∨ SqT K H p ys) ∧ Q (.int ys.length) H
theorem call_len_seqK (e : X.K = K) : CallR X (.builtin "len") (rLenQ K) := by subst e; exact call_len_seq
theorem ix_tupK (e : X.K = K) : IxR X (rIxT K) := by subst e; exact ix_tup
theorem ix_listK (e : X.K = K) : IxR X (rIxL K) := by subst e; exact ix_list
theorem sl_tupK (e : X.K = K) : SlR X (rSlT K) := by subst e; exact sl_tup
theorem sl_tupAK (e : X.K = K) : SlR X (rSlA K) := by subst e; exact sl_tupA
theorem op_catAK (e : X.K = K) : OpR X (binaryOp .Add) (rCatA K) := by subst e; exact op_catA
theorem sl_listK (e : X.K = K) : SlR X (rSlL K) := by subst e; exact sl_list
theorem call_isiK (e : X.K = K) : CallR X (.builtin "isinstance") (rIsi K) := by subst e; exact call_isi
theorem op_in_seqK (e : X.K = K) : OpR X (compareOp .In) (rIn K false) := by subst e; exact op_in_seq
theorem op_notIn_seqK (e : X.K = K) : OpR X (compareOp .NotIn) (rIn K true) := by subst e; exact op_notIn_seq
theorem op_eqDK (e : X.K = K) (hu : X.A.units + 64 < cLine) : OpR X (compareOp .Eq) (rEqD K) := by subst e; exact op_eqD hu
theorem op_neDK (e : X.K = K) (hu : X.A.units + 64 < cLine) : OpR X (compareOp .NotEq) (rNeD K) := by subst e; exact op_neD hu
end
/-! ### a written dict -/
section
variable {X : Cx} {d : Addr} {es : Array DictEntry} {n : Nat}
theorem ix_kd (D : KDict X.K X.w d es n) : IxR X (fun x y H Q => ∃ (z : Str) (u0 : Value) (v0 : V), x = .ref d ∧ y = .str z ∧ PySem.W.nsIn X.K d z = some (some u0) ∧ RelV v0 u0 ∧ Q v0 H) := by
  intro value slice pins s σ H x y v u Q I rx ry h hs
  obtain ⟨z, u0, v0, rfl, rfl, e, r, q⟩ := h
  cases rx
  obtain ⟨t, rfl⟩ := ry
  refine tail_any (kd_type D I) PySem.F.slot_dict_getitem.lookup ?_ hs
  exact wpAny_getItem_of (PySem.strKind_is X.prog X.w z t) (PySem.W.mapOf_K (prog := X.prog) I.kIn D.at_ D.lit) (PySem.W.find_K D.at_ e) ⟨v0, H, I.tok _, r, q⟩
end
end Any
set_option Elab.async false
set_option linter.all false
set_option maxRecDepth 100000
set_option maxHeartbeats 4000000
/-! Names, as a walk over the signs. -/
namespace Any
open PySem PySem.Spec PyProof.Rows L2
def keptA : List V := [V.str "ahead", V.str "anew", V.str "ask", V.str "body", V.str "call", V.str "do", V.str "document", V.str "down", V.str "each", V.str "else", V.str "ever", V.str "fill", V.str "group", V.str "if"]
def keptB : List V := [V.str "left", V.str "less", V.str "minus", V.str "none", V.str "order", V.str "over", V.str "part", V.str "place", V.str "plus", V.str "program", V.str "reads", V.str "right"]
def keptC : List V := [V.str "run", V.str "same", V.str "set", V.str "show", V.str "then", V.str "times", V.str "up", V.str "walk", V.str "while", V.str "whole", V.str "width"]
def keptV : List V := keptA ++ keptB ++ keptC
def letS : Str := "abcdefghijklmnopqrstuvwxyz"
def Asc (x : Str) : Prop := ∀ c ∈ x.cps.toList, c < 128
def inLet (c : Nat) : Bool := decide (c ∈ letS.cps.toList)
def inKept (x : Str) : Bool := inV (.str x) keptV
def lenOk (x : Str) : Bool := decide ((1 : Int) ≤ (x.length : Int)) && decide ((x.length : Int) ≤ 8)
def isNm (x : Str) : Bool := lenOk x && (x.cps.toList.all inLet && !inKept x)
theorem rsame {H : Hp} : Same H H := fun _ _ e => e
theorem snew {H : Hp} {p : Addr} {o : HO} (h : H p = none) : Same H (upd H p o) := fun b u e => by
  rw [upd_ne (ne_of_none e h)]
  exact e
theorem kept_flat : keptV.all flatV = true := by decide +kernel
theorem line_le {n : Nat} (h : n ≤ 1000000) : n ≤ sizeLine := by
  rw [sizeLine_eq]
  omega
theorem take_map {f : Nat → V} {x : Str} {i c : Nat} (h : x.cps[i]? = some c) : (x.cps.toList.take (i + 1)).map f = (x.cps.toList.take i).map f ++ [f c] := by
  have h2 : x.cps.toList[i]? = some c := by simpa using h
  rw [List.take_succ, h2, List.map_append]
  rfl
theorem size_len (x : Str) : x.cps.size = x.length := rfl
end Any
set_option Elab.async false
set_option linter.all false
set_option maxRecDepth 100000
set_option maxHeartbeats 4000000
/-! Expressions as data: node by node, and by the law's own form. -/
namespace Exq
open PySem
/-- a whole number between two -/
def btw (lo hi : Int) : PyData → Bool
  | .int i => decide (lo ≤ i) && decide (i ≤ hi)
  | _ => false
def oneOf (ws : List Str) : PyData → Bool
  | .str x => decide (x ∈ ws)
  | _ => false
def opsN : List Str := ["plus", "minus", "times", "same", "less", "over"]
section
variable (nm : PyData → Bool)
/-- an each's own parts, behind its head -/
def eachOk : List PyData → Bool
  | [x, a, b, _] => nm x && (btw 0 7 a && (match a with
      | .int i => btw i 7 b
      | _ => false))
  | [x, a, b, _, p] => nm x && (oneOf ["up", "down"] p && (btw 0 7 a && (match a with
      | .int i => btw i 7 b
      | _ => false)))
  | _ => false
/-- a node by its head and the rest of the tuple -/
def nodeOk (h : Str) (r : List PyData) : Bool :=
  if h ∈ opsN then (match r with
    | [_, _] => true
    | [_, _, p] => oneOf ["left", "right"] p
    | _ => false)
  else if h = "each" then eachOk nm r
  else if h = "name" then (match r with
    | [x] => nm x
    | [x, k] => nm x && btw 0 3 k
    | _ => false)
  else if h = "number" then (match r with
    | [k] => btw 0 7 k
    | _ => false)
  else if h = "set" then (match r with
    | [x, _] => nm x
    | _ => false)
  else if h = "show" then decide (r.length = 1)
  else if h = "ask" then decide (r.length = 0)
  else if h = "if" then decide (r.length = 3)
  else if h = "then" then decide (r.length = 2)
  else if h = "while" then decide (r.length = 2)
  else if h = "call" then (match r with
    | [x] => nm x
    | _ => false)
  else false
/-- where the expressions stand within it (places counted from the head) -/
def kids (h : Str) (r : List PyData) : List PyData :=
  if h ∈ opsN then r.take 2
  else if h = "each" then (r.drop 3).take 1
  else if h = "set" then (r.drop 1).take 1
  else if h = "show" then r.take 1
  else if h = "if" then r.take 3
  else if h = "then" then r.take 2
  else if h = "while" then r.take 2
  else []
/-- an expression, looked at n levels deep -/
def exN : Nat → PyData → Bool
  | 0, _ => false
  | n + 1, .tuple (.str h :: r) => nodeOk nm h r && (kids h r).all (exN n)
  | _ + 1, _ => false
end
theorem take_len {α : Type} : ∀ (r : List α) (n : Nat), (r.take n).length ≤ r.length := fun r n => by
  rw [List.length_take]
  omega
/-- the parts of a tuple are less deep -/
theorem depth_mem : ∀ {xs : List PyData} {x : PyData}, x ∈ xs → x.depth ≤ PyData.depthAll xs
  | y :: xs, x, h => by
    rcases List.mem_cons.mp h with rfl | h
    · exact Nat.le_max_left _ _
    · exact Nat.le_trans (depth_mem h) (Nat.le_max_right _ _)
theorem kids_mem {h : Str} {r : List PyData} {x : PyData} (m : x ∈ kids h r) : x ∈ r := by
  unfold kids at m
  split at m
  · exact List.mem_of_mem_take m
  split at m
  · exact List.mem_of_mem_drop (List.mem_of_mem_take m)
  split at m
  · exact List.mem_of_mem_drop (List.mem_of_mem_take m)
  split at m
  · exact List.mem_of_mem_take m
  split at m
  · exact List.mem_of_mem_take m
  split at m
  · exact List.mem_of_mem_take m
  split at m
  · exact List.mem_of_mem_take m
  · cases m
theorem exN_tup (nm : PyData → Bool) (n : Nat) (h : Str) (r : List PyData) : exN nm (n + 1) (.tuple (.str h :: r)) = (nodeOk nm h r && (kids h r).all (exN nm n)) := rfl
/-- headed, or not -/
theorem headed (d : PyData) : (∃ h r, d = .tuple (.str h :: r)) ∨ ∀ (nm : PyData → Bool) (n : Nat), exN nm n d = false := by
  cases d with
  | tuple xs =>
    cases xs with
    | nil => exact .inr fun nm n => by cases n <;> rfl
    | cons y r =>
      cases y with
      | str h => exact .inl ⟨h, r, rfl⟩
      | _ => exact .inr fun nm n => by cases n <;> rfl
  | _ => exact .inr fun nm n => by cases n <;> rfl
theorem all_same {α : Type} {f g : α → Bool} {l : List α} (h : ∀ x ∈ l, f x = g x) : l.all f = l.all g := by
  rw [Bool.eq_iff_iff, List.all_eq_true, List.all_eq_true]
  exact ⟨fun a x hx => by rw [← h x hx]; exact a x hx, fun a x hx => by rw [h x hx]; exact a x hx⟩
/-- more levels tell no more -/
theorem exN_more (nm : PyData → Bool) : ∀ (n m : Nat) (d : PyData), d.depth < n → d.depth < m → exN nm n d = exN nm m d
  | 0, _, _, h, _ => absurd h (Nat.not_lt_zero _)
  | _, 0, _, _, h => absurd h (Nat.not_lt_zero _)
  | n + 1, m + 1, d, hn, hm => by
    rcases headed d with ⟨h, r, rfl⟩ | no
    · have dp : (PyData.tuple (.str h :: r)).depth = PyData.depthAll (.str h :: r) + 1 := rfl
      rw [exN_tup, exN_tup, all_same fun x hx => exN_more nm n m x (by have := depth_mem (List.mem_cons_of_mem (PyData.str h) (kids_mem hx)); omega) (by have := depth_mem (List.mem_cons_of_mem (PyData.str h) (kids_mem hx)); omega)]
    · rw [no, no]
/-- an expression -/
def exOk (nm : PyData → Bool) (d : PyData) : Bool := exN nm (d.depth + 1) d
theorem exOk_node (nm : PyData → Bool) (h : Str) (r : List PyData) : exOk nm (.tuple (.str h :: r)) = (nodeOk nm h r && (kids h r).all (exOk nm)) := by
  unfold exOk
  have dp : (PyData.tuple (.str h :: r)).depth = PyData.depthAll (.str h :: r) + 1 := rfl
  rw [exN_tup, all_same fun x hx => exN_more nm _ (x.depth + 1) x (by have := depth_mem (List.mem_cons_of_mem (PyData.str h) (kids_mem hx)); omega) (by omega)]
theorem exOk_else (nm : PyData → Bool) (d : PyData) (h : ∀ x r, d ≠ .tuple (.str x :: r)) : exOk nm d = false := by
  rcases headed d with ⟨x, r, e⟩ | no
  · exact absurd e (h x r)
  · exact no nm _
/-! ### a pile of nodes: what is_tree does -/
/-- how many nodes are still to be looked at, at most -/
def sizeN : Nat → PyData → Nat
  | 0, _ => 1
  | n + 1, .tuple (.str h :: r) => 1 + ((kids h r).map (sizeN n)).sum
  | _ + 1, _ => 1
theorem sizeN_pos : ∀ (n : Nat) (d : PyData), 1 ≤ sizeN n d
  | 0, _ => Nat.le_refl _
  | n + 1, d => by
    unfold sizeN
    split <;> omega
theorem sizeN_more : ∀ (n m : Nat) (d : PyData), d.depth < n → d.depth < m → sizeN n d = sizeN m d
  | 0, _, _, h, _ => absurd h (Nat.not_lt_zero _)
  | _, 0, _, _, h => absurd h (Nat.not_lt_zero _)
  | n + 1, m + 1, d, hn, hm => by
    rcases headed d with ⟨h, r, rfl⟩ | _
    · have dp : (PyData.tuple (.str h :: r)).depth = PyData.depthAll (.str h :: r) + 1 := rfl
      show 1 + ((kids h r).map (sizeN n)).sum = 1 + ((kids h r).map (sizeN m)).sum
      congr 2
      refine List.map_congr_left fun x hx => ?_
      have := depth_mem (List.mem_cons_of_mem (PyData.str h) (kids_mem hx))
      exact sizeN_more n m x (by omega) (by omega)
    · cases d with
      | tuple xs =>
        cases xs with
        | nil => rfl
        | cons y r =>
          cases y with
          | str h =>
            have dp : (PyData.tuple (.str h :: r)).depth = PyData.depthAll (.str h :: r) + 1 := rfl
            show 1 + ((kids h r).map (sizeN n)).sum = 1 + ((kids h r).map (sizeN m)).sum
            congr 2
            refine List.map_congr_left fun x hx => ?_
            have := depth_mem (List.mem_cons_of_mem (PyData.str h) (kids_mem hx))
            exact sizeN_more n m x (by omega) (by omega)
          | _ => rfl
      | _ => rfl
def sizeOfEx (d : PyData) : Nat := sizeN (d.depth + 1) d
theorem sizeOfEx_node (h : Str) (r : List PyData) : sizeOfEx (.tuple (.str h :: r)) = 1 + ((kids h r).map sizeOfEx).sum := by
  have dp : (PyData.tuple (.str h :: r)).depth = PyData.depthAll (.str h :: r) + 1 := rfl
  show 1 + ((kids h r).map (sizeN (PyData.tuple (.str h :: r)).depth)).sum = _
  congr 2
  refine List.map_congr_left fun x hx => ?_
  have := depth_mem (List.mem_cons_of_mem (PyData.str h) (kids_mem hx))
  exact sizeN_more _ _ x (by omega) (by omega)
theorem sizeOfEx_pos (d : PyData) : 1 ≤ sizeOfEx d := sizeN_pos _ d
end Exq
set_option Elab.async false
set_option linter.all false
set_option maxRecDepth 100000
set_option maxHeartbeats 4000000
/-! Data: its class, its parts, what stays of it. -/
namespace Any
open PySem PySem.Spec PyProof.Rows L2
open He (ga ma)
/-! ### data and its class -/
def tyN : PyData → String
  | .none => "NoneType"
  | .bool _ => "bool"
  | .int _ => "int"
  | .str _ => "str"
  | .list _ => "list"
  | .tuple _ => "tuple"
  | .dict _ => "dict"
theorem seqT_ty {K : PySem.W.Frag} {H : Hp} {a : Addr} {xs : List V} (h : SqT K H a xs) : TyX K H (.ref a) (.type "tuple") := by
  rcases h with (h | ⟨o, h⟩) | ⟨o, its, n, e, c, _⟩
  · exact .base (.tup h)
  · exact .fTuple h
  · exact .kTuple e c
theorem seqL_ty {K : PySem.W.Frag} {H : Hp} {a : Addr} {xs : List V} (h : SqL K H a xs) : TyX K H (.ref a) (.type "list") := by
  rcases h with (h | ⟨o, h⟩) | ⟨o, its, n, e, c, _⟩
  · exact .base (.lst h)
  · exact .base (.frz h)
  · exact .kList e c
theorem Dx.ty {K : PySem.W.Frag} {H : Hp} {v : V} {d : PyData} (h : Dx K H v d) : TyX K H v (.type (tyN d)) := by
  cases h with
  | non => exact .base .non
  | bl b => exact .base (.bl b)
  | int i => exact .base (.int i)
  | str x => exact .base (.str x)
  | lst e _ => exact seqL_ty e
  | tup e _ => exact seqT_ty e
  | dct e _ => exact .base (.dK e)
/-- isinstance(thing, T) of data -/
def tyNames : List String := ["NoneType", "bool", "int", "str", "list", "tuple", "dict"]
theorem ty_mem (d : PyData) : tyN d ∈ tyNames := by cases d <;> simp [tyN, tyNames]
def isTyS (t n : String) : Bool := n == t || (t == "int" && n == "bool")
def isTy (t : String) (d : PyData) : Bool := isTyS t (tyN d)
theorem kit_all : (tyNames.all fun n => ["int", "bool", "str", "tuple"].all fun t => decide (kitB n t = some (isTyS t n))) = true := by decide +kernel
theorem kit_at {t : String} (d : PyData) (h : t ∈ ["int", "bool", "str", "tuple"]) : kitB (tyN d) t = some (isTy t d) :=
  of_decide_eq_true (List.all_eq_true.mp (List.all_eq_true.mp kit_all _ (ty_mem d)) t h)
theorem kit_int (d : PyData) : kitB (tyN d) "int" = some (isTy "int" d) := kit_at d (by simp)
theorem kit_bool (d : PyData) : kitB (tyN d) "bool" = some (isTy "bool" d) := kit_at d (by simp)
theorem kit_str (d : PyData) : kitB (tyN d) "str" = some (isTy "str" d) := kit_at d (by simp)
theorem kit_tuple (d : PyData) : kitB (tyN d) "tuple" = some (isTy "tuple" d) := kit_at d (by simp)
def isNum : PyData → Bool
  | .int _ => true
  | _ => false
theorem Dx.sameT {K : PySem.W.Frag} {H H' : Hp} {a : Addr} {xs : List V} (s : Same H H') (h : SqT K H a xs) : SqT K H' a xs := by
  rcases h with (h | ⟨o, h⟩) | h
  · exact .inl (.inl (s _ _ h))
  · exact .inl (.inr ⟨o, s _ _ h⟩)
  · exact .inr h
mutual
theorem dxSame {K : PySem.W.Frag} {H H' : Hp} (s : Same H H') : ∀ (d : PyData) (v : V), Dx K H v d → Dx K H' v d
  | .none, _, .non => .non
  | .bool _, _, .bl b => .bl b
  | .int _, _, .int i => .int i
  | .str _, _, .str x => .str x
  | .list ds, _, .lst e r => .lst (s.seq e) (dxSameA s ds _ r)
  | .tuple ds, _, .tup e r => .tup (Dx.sameT s e) (dxSameA s ds _ r)
  | .dict ds, _, .dct e r => .dct (s _ _ e) (dxSameK s ds _ r)
theorem dxSameA {K : PySem.W.Frag} {H H' : Hp} (s : Same H H') : ∀ (ds : List PyData) (vs : List V), DxAll K H vs ds → DxAll K H' vs ds
  | [], _, .nil => .nil
  | d :: ds, _, .cons h r => .cons (dxSame s d _ h) (dxSameA s ds _ r)
theorem dxSameK {K : PySem.W.Frag} {H H' : Hp} (s : Same H H') : ∀ (ds : List (PyData × PyData)) (vs : List (Key × V)), DxKv K H vs ds → DxKv K H' vs ds
  | [], _, .nil => .nil
  | (_, d) :: ds, _, .cons h r => .cons (dxSame s d _ h) (dxSameK s ds _ r)
end
theorem DxAll.len {K : PySem.W.Frag} {H : Hp} : ∀ {vs : List V} {ds : List PyData}, DxAll K H vs ds → vs.length = ds.length
  | _, _, .nil => rfl
  | _, _, .cons _ r => by rw [List.length_cons, List.length_cons, DxAll.len r]
theorem DxAll.at {K : PySem.W.Frag} {H : Hp} : ∀ {vs : List V} {ds : List PyData} {i : Nat} {d : PyData}, DxAll K H vs ds → ds[i]? = some d → ∃ v, vs[i]? = some v ∧ Dx K H v d
  | _, _, 0, _, .cons h _, e => by
    cases Option.some.inj e
    exact ⟨_, rfl, h⟩
  | _, _, i + 1, _, .cons _ r, e => by
    obtain ⟨v, a, b⟩ := DxAll.at (i := i) r (by simpa using e)
    exact ⟨v, by simpa using a, b⟩
theorem inV_strs (x : Str) (ws : List Str) : inV (.str x) (ws.map V.str) = decide (x ∈ ws) := by
  unfold inV
  rw [Bool.eq_iff_iff, List.any_eq_true, decide_eq_true_iff]
  constructor
  · rintro ⟨y, hy, e⟩
    obtain ⟨z, hz, rfl⟩ := List.mem_map.mp hy
    have : z = x := by simpa [eqV] using e
    rw [← this]
    exact hz
  · intro h
    exact ⟨.str x, List.mem_map.mpr ⟨x, h, rfl⟩, by simp [eqV]⟩
theorem flat_strs (ws : List Str) : (ws.map V.str).all flatV = true := List.all_eq_true.mpr fun v hv => by
  obtain ⟨x, _, rfl⟩ := List.mem_map.mp hv
  rfl

def rowB (n : Int) : PyData → Bool
  | .tuple ds => decide ((ds.length : Int) = n)
  | _ => false
def hdB : PyData → Bool
  | .tuple (.str _ :: _) => true
  | _ => false
def nmD : PyData → Bool
  | .str x => isNm x
  | _ => false
/-! ### weight: how much there is in it, lengths and numbers counted -/
mutual
def wt : PyData → Nat
  | .none => 1
  | .bool _ => 1
  | .int i => 1 + i.natAbs
  | .str x => 1 + x.length
  | .list ds => 1 + wtA ds
  | .tuple ds => 1 + wtA ds
  | .dict kvs => 1 + wtK kvs
def wtA : List PyData → Nat
  | [] => 0
  | d :: ds => wt d + wtA ds
def wtK : List (PyData × PyData) → Nat
  | [] => 0
  | (k, d) :: ds => wt k + wt d + wtK ds
end
theorem wt_pos (d : PyData) : 1 ≤ wt d := by
  cases d <;> simp only [wt] <;> omega
theorem wtA_len : ∀ ds : List PyData, ds.length ≤ wtA ds
  | [] => Nat.le_refl _
  | d :: ds => by
    have h1 := wt_pos d
    have h2 := wtA_len ds
    simp only [List.length_cons, wtA]
    omega
theorem wtA_mem : ∀ {ds : List PyData} {d : PyData}, d ∈ ds → wt d ≤ wtA ds
  | e :: ds, d, h => by
    rcases List.mem_cons.mp h with rfl | h
    · simp only [wtA]
      omega
    · have := wtA_mem h
      simp only [wtA]
      omega
theorem wtA_app : ∀ (xs ys : List PyData), wtA (xs ++ ys) = wtA xs + wtA ys
  | [], ys => by simp [wtA]
  | x :: xs, ys => by
    have := wtA_app xs ys
    simp only [List.cons_append, wtA]
    omega
theorem str_le {x : Str} {n : Nat} (h : wt (.str x) ≤ n) : x.length ≤ n := by
  simp only [wt] at h
  omega
/-! ### what is hidden -/
def hidS (S : List Addr) (H : Hp) : Hp := fun b => if b ∈ S then none else H b
theorem hid_in {S : List Addr} {H : Hp} {b : Addr} (h : b ∈ S) : hidS S H b = none := if_pos h
theorem hid_out {S : List Addr} {H : Hp} {b : Addr} (h : b ∉ S) : hidS S H b = H b := if_neg h
theorem hid_same {S : List Addr} {H : Hp} : Same (hidS S H) H := fun b o e => by
  by_cases h : b ∈ S
  · rw [hid_in h] at e
    cases e
  · rwa [hid_out h] at e
theorem hid_of {S : List Addr} {H : Hp} {b : Addr} {o : HO} (h : b ∉ S) (e : H b = some o) : hidS S H b = some o := by rw [hid_out h, e]
theorem hid_more {S S' : List Addr} {H : Hp} (h : ∀ b ∈ S, b ∈ S') : Same (hidS S' H) (hidS S H) := fun b o e => by
  by_cases hb : b ∈ S'
  · rw [hid_in hb] at e
    cases e
  · rw [hid_out hb] at e
    rw [hid_out fun z => hb (h b z), e]
/-- all but what is at S stands -/
def Fr (S : List Addr) (H H' : Hp) : Prop := Same (hidS S H) (hidS S H')
theorem Fr.refl {S : List Addr} {H : Hp} : Fr S H H := fun _ _ e => e
theorem Fr.trans {S : List Addr} {H H1 H2 : Hp} (a : Fr S H H1) (b : Fr S H1 H2) : Fr S H H2 := fun c o e => b c o (a c o e)
theorem Fr.of {S : List Addr} {H H' : Hp} (s : Same H H') : Fr S H H' := fun b o e => by
  by_cases hb : b ∈ S
  · rw [hid_in hb] at e
    cases e
  · rw [hid_out hb] at e ⊢
    exact s b o e
theorem Fr.at {S : List Addr} {H H' : Hp} (f : Fr S H H') {b : Addr} {o : HO} (e : H b = some o) (h : b ∉ S) : H' b = some o := by
  have := f b o (hid_of h e)
  rwa [hid_out h] at this
theorem Fr.mk {S : List Addr} {H H' : Hp} (h : ∀ b o, H b = some o → b ∉ S → H' b = some o) : Fr S H H' := fun b o e => by
  by_cases hb : b ∈ S
  · rw [hid_in hb] at e
    cases e
  · rw [hid_out hb] at e ⊢
    exact h b o e hb
theorem Fr.more {S S' : List Addr} {H H' : Hp} (f : Fr S H H') (h : ∀ b ∈ S, b ∈ S') : Fr S' H H' := Fr.mk fun b o e hb => f.at e fun z => hb (h b z)
theorem Fr.set {S : List Addr} {H : Hp} {b : Addr} {o : HO} (h : b ∈ S) : Fr S H (upd H b o) := Fr.mk fun c q e hc => by
  rw [upd_ne fun z => hc (by rw [z]; exact h)]
  exact e
theorem Fr.new {S : List Addr} {H : Hp} {b : Addr} {o : HO} (h : H b = none) : Fr S H (upd H b o) := Fr.of (snew h)
theorem Fr.dx {K : PySem.W.Frag} {S : List Addr} {H H' : Hp} (f : Fr S H H') {v : V} {d : PyData} (h : Dx K (hidS S H) v d) : Dx K (hidS S H') v d := dxSame f d v h
theorem Fr.dxA {K : PySem.W.Frag} {S : List Addr} {H H' : Hp} (f : Fr S H H') {v : List V} {d : List PyData} (h : DxAll K (hidS S H) v d) : DxAll K (hidS S H') v d := dxSameA f d v h
theorem Dx.unhid {K : PySem.W.Frag} {S : List Addr} {H : Hp} {v : V} {d : PyData} (h : Dx K (hidS S H) v d) : Dx K H v d := dxSame hid_same d v h
theorem DxAll.unhid {K : PySem.W.Frag} {S : List Addr} {H : Hp} {v : List V} {d : List PyData} (h : DxAll K (hidS S H) v d) : DxAll K H v d := dxSameA hid_same d v h
theorem Fr.free {S : List Addr} {H H' : Hp} (f : Fr S H H') {b : Addr} (h : H' b = none) (hb : b ∉ S) : H b = none := by
  cases e : H b with
  | none => rfl
  | some o =>
    rw [f.at e hb] at h
    cases h
theorem DxAll.app {K : PySem.W.Frag} {H : Hp} : ∀ {vs : List V} {ds : List PyData} {us : List V} {es : List PyData}, DxAll K H vs ds → DxAll K H us es → DxAll K H (vs ++ us) (ds ++ es)
  | _, _, _, _, .nil, h => h
  | _, _, _, _, .cons a r, h => .cons a (DxAll.app r h)
theorem DxAll.split {K : PySem.W.Frag} {H : Hp} : ∀ {ds es : List PyData} {vs : List V}, DxAll K H vs (ds ++ es) → ∃ us ws, vs = us ++ ws ∧ DxAll K H us ds ∧ DxAll K H ws es
  | [], _, vs, h => ⟨[], vs, rfl, .nil, h⟩
  | d :: ds, es, _, .cons a r => by
    obtain ⟨us, ws, rfl, h1, h2⟩ := DxAll.split (ds := ds) r
    exact ⟨_ :: us, ws, rfl, .cons a h1, h2⟩
theorem DxAll.mem {K : PySem.W.Frag} {H : Hp} : ∀ {vs : List V} {ds : List PyData} {v : V}, DxAll K H vs ds → v ∈ vs → ∃ d, d ∈ ds ∧ Dx K H v d
  | _, _, v, .cons (d := d) a r, h => by
    rcases List.mem_cons.mp h with rfl | h
    · exact ⟨d, List.mem_cons_self .., a⟩
    · obtain ⟨e, m, q⟩ := DxAll.mem r h
      exact ⟨e, List.mem_cons_of_mem _ m, q⟩
theorem DxAll.atV {K : PySem.W.Frag} {H : Hp} : ∀ {vs : List V} {ds : List PyData} {i : Nat} {v : V}, DxAll K H vs ds → vs[i]? = some v → ∃ d, ds[i]? = some d ∧ Dx K H v d
  | _, _, 0, _, .cons h _, e => by
    cases Option.some.inj e
    exact ⟨_, rfl, h⟩
  | _, _, i + 1, _, .cons _ r, e => by
    obtain ⟨v, a, b⟩ := DxAll.atV (i := i) r (by simpa using e)
    exact ⟨v, by simpa using a, b⟩
end Any
set_option Elab.async false
set_option maxRecDepth 100000
set_option maxHeartbeats 4000000
/-! The draws of a law: what begun, mixed, take and pick promise. -/
namespace Any
open PySem L2
def top (i : Nat) : Stmt := PySem.Challenge.pw_anymaker_k09_expressions_programs_and_pl.main.body.getD i (.Pass ⟨0, 0, 0, 0⟩)
abbrev sBegun : Stmt := top 38
abbrev sMixed : Stmt := top 39
abbrev sTake : Stmt := top 40
abbrev sPick : Stmt := top 41

/-! ### a dict of four written keys -/
theorem valHit {k : Key} {v : V} {r : List (Key × V)} : valV ((k, v) :: r) k = some v := by
  unfold valV
  rw [List.find?_cons_of_pos (by simp)]
  rfl
theorem valMiss {k j : Key} {v : V} {r : List (Key × V)} (h : ¬ k = j) : valV ((k, v) :: r) j = valV r j := by
  unfold valV
  rw [List.find?_cons_of_neg (by simpa using h)]
theorem sw_c : ¬ ("wide" : Str) = "cells" := by decide +kernel
theorem sw_r : ¬ ("wide" : Str) = "rest" := by decide +kernel
theorem sw_t : ¬ ("wide" : Str) = "turn" := by decide +kernel
theorem sc_r : ¬ ("cells" : Str) = "rest" := by decide +kernel
theorem sc_t : ¬ ("cells" : Str) = "turn" := by decide +kernel
theorem sr_t : ¬ ("rest" : Str) = "turn" := by decide +kernel
theorem kne {x y : Str} (h : ¬ x = y) : ¬ (Sum.inr x : Key) = Sum.inr y := fun e => h (Sum.inr.inj e)
def dkv (w c : Addr) (r t : Int) : List (Key × V) := [(.inr "wide", .ref w), (.inr "cells", .ref c), (.inr "rest", .int r), (.inr "turn", .int t)]
theorem dkv_w {w c : Addr} {r t : Int} : valV (dkv w c r t) (Sum.inr ("wide" : Str)) = some (.ref w) := valHit
theorem dkv_c {w c : Addr} {r t : Int} : valV (dkv w c r t) (Sum.inr ("cells" : Str)) = some (.ref c) := (valMiss (kne sw_c)).trans valHit
theorem dkv_r {w c : Addr} {r t : Int} : valV (dkv w c r t) (Sum.inr ("rest" : Str)) = some (.int r) := (valMiss (kne sw_r)).trans ((valMiss (kne sc_r)).trans valHit)
theorem dkv_t {w c : Addr} {r t : Int} : valV (dkv w c r t) (Sum.inr ("turn" : Str)) = some (.int t) := (valMiss (kne sw_t)).trans ((valMiss (kne sc_t)).trans ((valMiss (kne sr_t)).trans valHit))
theorem dkv_putR {w c : Addr} {r t z : Int} : putK (dkv w c r t) (Sum.inr ("rest" : Str)) (.int z) = dkv w c z t := by
  unfold putK dkv
  simp [sw_r, sc_r, Ne.symm sr_t]
theorem dkv_putT {w c : Addr} {r t z : Int} : putK (dkv w c r t) (Sum.inr ("turn" : Str)) (.int z) = dkv w c r z := by
  unfold putK dkv
  simp [sw_t, sc_t, sr_t]
theorem dkv_merge {w c : Addr} {r t : Int} : mergeK [] (dkv w c r t) = dkv w c r t := by
  unfold mergeK dkv putK
  simp [sw_t, sc_t, sr_t, sw_r, sc_r, sw_c]
theorem yes_if {A B : Hp → Prop} {σ : St} {H : Hp} (h : A H) : tYes σ H (fun b H' => if b = true then A H' else B H') := by
  show (if true = true then A H else B H)
  rw [if_pos rfl]
  exact h
/-! ### what a draw is, as it stands -/
/-- the draw at d: its two lists at w and c; it has taken no more than t turns -/
def Draw (H : Hp) (d w c : Addr) (t : Int) : Prop := ∃ (ws cs : List Int) (r u : Int), H d = some (.dK (dkv w c r u)) ∧ H w = some (.lst (ws.map V.int)) ∧ H c = some (.lst (cs.map V.int)) ∧ w ≠ c ∧
  (∀ z ∈ ws, 0 ≤ z) ∧ (∀ z ∈ cs, 0 ≤ z ∧ z < 2147483629) ∧ 0 ≤ r ∧ 0 ≤ u ∧ u ≤ t ∧ ws.length ≤ 63
/-- all that was tracked stands as it stood, but what is at d and w -/
def But (d w : Addr) (H H' : Hp) : Prop := ∀ b o, H b = some o → b ≠ d → b ≠ w → H' b = some o
def spBegun (K : PySem.W.Frag) : Sp := fun vs H Q _ => ∃ (a : Addr) (ns : List Int), vs = [.ref a] ∧ SqL K H a (ns.map V.int) ∧ ns.length ≤ 63 ∧
  ∀ (d w c : Addr) (H' : Hp), Draw H' d w c 0 → Same H H' → H d = none → H w = none → H c = none → Q (.ref d) H'
/-- a number from 0 on, of some size -/
def spMixed : Sp := fun vs H Q _ => ∃ (d w c : Addr) (t : Int), vs = [.ref d] ∧ Draw H d w c t ∧ t < 1099511627776 ∧
  ∀ (x : Int) (H' : Hp), 0 ≤ x → Draw H' d w c (t + 1) → But d w H H' → Q (.int x) H'
def spTake : Sp := fun vs H Q _ => ∃ (d w c : Addr) (t many : Int), vs = [.ref d, .int many] ∧ Draw H d w c t ∧ t < 1099511627776 ∧ 0 < many ∧ many < 1073741824 ∧
  ∀ (x : Int) (H' : Hp), 0 ≤ x → x < many → Draw H' d w c (t + 1) → But d w H H' → Q (.int x) H'
def spPick (K : PySem.W.Frag) : Sp := fun vs H Q _ => ∃ (d w c l : Addr) (t : Int) (xs : List V), vs = [.ref d, .ref l] ∧ Draw H d w c t ∧ t < 1099511627776 ∧ SqL K H l xs ∧ l ≠ d ∧ l ≠ w ∧ xs ≠ [] ∧ xs.length < 1073741824 ∧
  ∀ (x : V) (H' : Hp), x ∈ xs → Draw H' d w c (t + 1) → But d w H H' → Q x H'
/-- what the walk asks of the names -/
structure DTxt (mg : Str → Option Value) : Prop where
  abs : mg "abs" = none
  int : mg "int" = none
  len : mg "len" = none
section
variable {P : Program} {w : World} {K : PySem.W.Frag} {mg : Str → Option Value} {base : Heap}
theorem scB : FnScope ["script", "wide", "grain"] ["script"] (defScope sBegun) := ⟨rfl, rfl, rfl, by decide +kernel, rfl, by decide +kernel, by decide +kernel⟩
theorem int_at {ns : List Int} {i : Nat} {x : V} (h : (ns.map V.int)[i]? = some x) : ∃ z, ns[i]? = some z ∧ x = V.int z := by
  rw [List.getElem?_map] at h
  cases e : ns[i]? with
  | none =>
    rw [e] at h
    cases h
  | some z =>
    rw [e] at h
    exact ⟨z, rfl, (Option.some.inj h).symm⟩
theorem ok_begun {f : Addr} {fd : FuncData} (F : Fun K "_law_begun" "_law_begun" sBegun f fd) (T : DTxt mg) : FnOk P w K mg base CX0 1 f fd ["script"] (spBegun K) := by
  refine F.ok scB (fun vs H Q E h => ?_) (fun cdv A outer s H vs Q E hr h => ?_)
  · obtain ⟨a, ns, rfl, _⟩ := h
    rfl
  · obtain ⟨a, ns, rfl, hS, hl, k⟩ := h
    refine ⟨_, pss_cons (ps_setLc (i := 1) (own := [("grain", 2)]) (g := gName 2) rfl scB.nd rfl rfl (sw_true rfl rfl rfl (by decide +kernel)) (pi_list (pv 0))
        (blkOk_by (own := [("grain", 2)]) (N := ["script", "wide", "grain"]) (sc := defScope sBegun) (by decide +kernel))
        (fun _ _ _ _ _ => pg_name (i := 2) scB.nd rfl (Or.inl rfl))
        (fun _ _ _ _ _ => pts_one (pt_cmpR op_ge (pe_callB call_abs (by rfl) T.abs (by decide +kernel) (pa_cons (pv 2) pa_nil)) (pe_op op_pow pe_int pe_int) (nomark _)))
        (fun _ _ _ _ _ => pe_op op_sub (pe_callB call_abs (by rfl) T.abs (by decide +kernel) (pa_cons (pv 2) pa_nil)) (pe_op op_pow pe_int pe_int)))
      (pss_one (ps_ret (pe_disp (pps_cons pe_str (pv 1) (pps_cons pe_str
        (pe_lc (own := [("grain", 2)]) (g := gName 2) rfl scB.nd (pi_list (pv 0)) (blkOk_by (own := [("grain", 2)]) (N := ["script", "wide", "grain"]) (sc := defScope sBegun) (by decide +kernel))
          (fun _ _ _ _ _ => pg_name (i := 2) scB.nd rfl (Or.inl rfl)) (fun _ _ _ _ _ => pts_nil)
          (fun _ _ _ _ _ => pe_op op_mod (pe_callTy call_int1 (by rfl) T.int (by decide +kernel) (pa_cons (pe_callB call_abs (by rfl) T.abs (by decide +kernel) (pa_cons (pv 2) pa_nil)) pa_nil)) pe_int))
        (pps_cons pe_str pe_int (pps_cons pe_str pe_int pps_nil)))) (by rfl) (by rfl) (fun z => by cases z) (by decide)))), ?_⟩
    refine ⟨_, rfl, a, rfl, ⟨_, hS⟩, fun D hD => lc_list (K := K) (a := a) (xs := ns.map V.int)
      (fun i H1 => ∃ ws : List Int, (∀ z ∈ ws, 0 ≤ z) ∧ ws.length ≤ i ∧ H1 D = some (.lst (ws.map V.int)) ∧ Same H H1) ?_ (fun i H1 _ ⟨_, _, _, _, s1⟩ => s1.seq hS) ?_ ?_⟩
    · exact ⟨[], by simp, Nat.le_refl _, upd_same, fun b o e => by rw [upd_ne (ne_of_none e hD)]; exact e⟩
    · rintro i x H1 hi ⟨ws, w0, wl, hD1, s1⟩
      have hil : i < ns.length := by
        have := (List.getElem?_eq_some_iff.mp hi).1
        rwa [List.length_map] at this
      obtain ⟨z, hz, rfl⟩ := int_at hi
      refine ⟨rfl, _, rfl, z, rfl, _, _, rfl, rfl, ⟨by decide, by decide, by decide⟩, _, _, rfl, rfl, _, rfl, ?_⟩
      refine ite2 (fun c => ?_) (fun c => ⟨ws, w0, by omega, hD1, s1⟩)
      have c := of_decide_eq_true c
      refine ⟨_, rfl, z, rfl, _, _, rfl, rfl, ⟨by decide, by decide, by decide⟩, _, _, rfl, rfl, _, hD1, ?_, ws ++ [(if z < 0 then -z else z) - 10 ^ (18 : Int).toNat], ?_, ?_, ?_, ?_⟩
      · rw [List.length_map]
        exact small1000 (by omega)
      · intro y hy
        rcases List.mem_append.mp hy with q | q
        · exact w0 y q
        · rw [List.mem_singleton.mp q]
          exact Int.sub_nonneg_of_le c
      · rw [List.length_append]
        show ws.length + 1 ≤ i + 1
        omega
      · rw [upd_same, List.map_append]
        rfl
      · intro b o e
        rw [upd_ne (ne_of_none e hD)]
        exact s1 b o e
    · rintro H1 ⟨ws, w0, wl, hD1, s1⟩
      rw [List.length_map] at wl
      -- the dict, then the cells
      intro d hd
      have dD : D ≠ d := ne_of_none hD1 hd
      have sd : Same H1 (upd H1 d (.dK [])) := fun b o e => by
        rw [upd_ne (ne_of_none e hd)]
        exact e
      refine ⟨_, rfl, _, rfl, a, rfl, ⟨_, (s1.trans sd).seq hS⟩, fun C hC => lc_list (K := K) (a := a) (xs := ns.map V.int)
        (fun i H2 => ∃ cs : List Int, (∀ z ∈ cs, 0 ≤ z ∧ z < 2147483629) ∧ cs.length ≤ i ∧ H2 C = some (.lst (cs.map V.int)) ∧ Same (upd H1 d (.dK [])) H2) ?_ (fun i H2 _ ⟨_, _, _, _, s2⟩ => ((s1.trans sd).trans s2).seq hS) ?_ ?_⟩
      · exact ⟨[], by simp, Nat.le_refl _, upd_same, fun b o e => by rw [upd_ne (ne_of_none e hC)]; exact e⟩
      · rintro i x H2 hi ⟨cs, c0, cl, hC2, s2⟩
        have hil : i < ns.length := by
          have := (List.getElem?_eq_some_iff.mp hi).1
          rwa [List.length_map] at this
        obtain ⟨z, hz, rfl⟩ := int_at hi
        refine ⟨rfl, yes_if ?_⟩
        refine ⟨_, rfl, z, rfl, .inl ⟨_, rfl, ?_⟩⟩
        refine ⟨_, _, rfl, rfl, (by show (0 : Int) < 2147483629; decide), _, hC2, ?_, cs ++ [(if z < 0 then -z else z) % 2147483629], ?_, ?_, ?_, ?_⟩
        · rw [List.length_map]
          exact small1000 (by omega)
        · intro y hy
          rcases List.mem_append.mp hy with q | q
          · exact c0 y q
          · rw [List.mem_singleton.mp q]
            exact ⟨Int.emod_nonneg _ (by decide), Int.emod_lt_of_pos _ (by decide)⟩
        · rw [List.length_append]
          show cs.length + 1 ≤ i + 1
          omega
        · rw [upd_same, List.map_append]
          rfl
        · intro b o e
          rw [upd_ne (ne_of_none e hC)]
          exact s2 b o e
      · rintro H2 ⟨cs, c0, cl, hC2, s2⟩
        have hd2 : H2 d = some (.dK []) := s2 _ _ upd_same
        have hD2 : H2 D = some (.lst (ws.map V.int)) := s2 _ _ (by rw [upd_ne dD]; exact hD1)
        have Cd : C ≠ d := ne_of hC2 hd2 (by intro q; cases q)
        have DC : D ≠ C := fun e => by
          rw [← e] at hC
          rw [upd_ne dD, hD1] at hC
          cases hC
        refine ⟨hd2, dkv D C 0 0, rfl, by show 4 ≤ 15; decide, ?_⟩
        have s3 : Same H H2 := (s1.trans sd).trans s2
        have hd0 : H d = none := s1.free hd
        refine k d D C _ ⟨ws, cs, 0, 0, ?_, ?_, ?_, DC, w0, c0, Int.le_refl _, Int.le_refl _, Int.le_refl _, by omega⟩ ?_ hd0 hD ?_
        · rw [upd_same, dkv_merge]
        · rw [upd_ne dD]
          exact hD2
        · rw [upd_ne Cd]
          exact hC2
        · intro b o e
          rw [upd_ne (ne_of_none e hd0)]
          exact s3 b o e
        · exact (s1.trans sd).free hC
theorem scM : FnScope ["draw", "turn", "found", "prime", "blend", "grain"] ["draw"] (defScope sMixed) := ⟨rfl, rfl, rfl, by decide +kernel, rfl, by decide +kernel, by decide +kernel⟩
theorem prime_at {i : Nat} {x : V} (h : [V.int 2147483647, V.int 2147483629, V.int 2147483587, V.int 2147483579][i]? = some x) : ∃ p : Int, x = V.int p ∧ 2147483579 ≤ p ∧ p ≤ 2147483647 := by
  have m := List.mem_of_getElem? h
  simp only [List.mem_cons, List.not_mem_nil, or_false] at m
  rcases m with rfl | rfl | rfl | rfl
  · exact ⟨_, rfl, by decide, by decide⟩
  · exact ⟨_, rfl, by decide, by decide⟩
  · exact ⟨_, rfl, by decide, by decide⟩
  · exact ⟨_, rfl, by decide, by decide⟩
theorem ok_mixed {f : Addr} {fd : FuncData} (F : Fun K "_law_mixed" "_law_mixed" sMixed f fd) (T : DTxt mg) : FnOk P w K mg base CX0 1 f fd ["draw"] spMixed := by
  refine F.ok scM (fun vs H Q E h => ?_) (fun cdv A outer s H vs Q E hr h => ?_)
  · obtain ⟨d, w, c, t, rfl, _⟩ := h
    rfl
  · obtain ⟨d, w, c, t, rfl, ⟨ws, cs, r, u, hd, hw, hc, wc, w0, c0, r0, u0, ut, wl⟩, tl, k⟩ := h
    have hu := hu_of hr
    refine ⟨_, pss_cons (ps_par (i := 1) (j := 2) rfl scM.nd rfl rfl (by decide) rfl rfl (pa_cons (pe_op op_add (pe_dget hu (pv 0) pe_str (fun _ _ => rfl)) pe_int) (pa_cons pe_int pa_nil)) (by rfl))
      (pss_cons (ps_dput hu (pv 0) pe_str (pv 1) rfl)
      (pss_cons (ps_for PassesOwn.never rfl (pi_list (pe_lst (pa_cons pe_int (pa_cons pe_int (pa_cons pe_int (pa_cons pe_int pa_nil)))))) (pg_name (i := 3) scM.nd rfl (Or.inl rfl))
        (pss_cons (ps_set (i := 4) scM.nd rfl (Or.inl rfl) (pe_op op_add (pe_op op_mul pe_int (pv 1)) (pe_op op_fdiv (pv 3) pe_int)))
        (pss_cons (ps_for PassesOwn.never rfl (pi_list (pe_dget hu (pv 0) pe_str (fun _ _ => rfl))) (pg_name (i := 5) scM.nd rfl (Or.inl rfl))
          (pss_one (ps_set (i := 4) scM.nd rfl (Or.inl rfl) (pe_op op_mod (pe_callTy call_int1 (by rfl) T.int (by decide +kernel) (pa_cons (pe_op op_add (pe_op op_add (pe_op op_mul (pv 4) pe_int) (pv 5)) (pv 1)) pa_nil)) (pv 3)))))
        (pss_one (ps_set (i := 2) scM.nd rfl (Or.inl rfl) (pe_op op_add (pe_op op_mul (pv 2) pe_int) (pe_op op_mod (pe_callTy call_int1 (by rfl) T.int (by decide +kernel) (pa_cons (pe_op op_pow (pv 4) pe_int) pa_nil)) (pv 3))))))))
      (pss_one (ps_ret (pv 2))))), ?_⟩
    -- turn, found = draw['turn'] + 1, 0
    refine ⟨_, rfl, d, _, rfl, (by rw [← dkv_t (w := w) (c := c) (r := r) (t := u)]; exact DGet.k (k := Sum.inr ("turn" : Str)) hd), _, _, rfl, rfl, _, _, rfl, ?_⟩
    -- draw['turn'] = turn
    refine ⟨_, rfl, _, rfl, d, _, rfl, DPut.k (k := Sum.inr ("turn" : Str)) hd (by show 4 < sizeLine; decide), ?_⟩
    rw [dkv_putT]
    refine ⟨by show 4 ≤ sizeLine; decide, fun L hL => ?_⟩
    have wd : w ≠ d := ne_of hw hd (by intro q; cases q)
    have cd : c ≠ d := ne_of hc hd (by intro q; cases q)
    have Ld : L ≠ d := fun e => by rw [e, upd_same] at hL; cases hL
    have hL0 : H L = none := by
      have e := hL
      rw [upd_ne Ld] at e
      exact e
    have wL : w ≠ L := ne_of_none hw hL0
    have cL : c ≠ L := ne_of_none hc hL0
    have g1 : ∀ o, (upd (upd H d (.dK (dkv w c r (u + 1)))) L o) d = some (.dK (dkv w c r (u + 1))) := fun o => by rw [upd_ne Ld.symm, upd_same]
    have g2 : ∀ o, (upd (upd H d (.dK (dkv w c r (u + 1)))) L o) w = some (.lst (ws.map V.int)) := fun o => by rw [upd_ne wL, upd_ne wd]; exact hw
    have g3 : ∀ o, (upd (upd H d (.dK (dkv w c r (u + 1)))) L o) c = some (.lst (cs.map V.int)) := fun o => by rw [upd_ne cL, upd_ne cd]; exact hc
    refine ⟨L, rfl, ⟨_, SqL.of upd_same⟩, for_list (K := K) (a := L) (xs := [V.int 2147483647, V.int 2147483629, V.int 2147483587, V.int 2147483579])
      (fun i σ H2 => ∃ (z : Int) (v3 v4 v5 : Option V), 0 ≤ z ∧ σ = [some (.ref d), some (.int (u + 1)), some (.int z), v3, v4, v5] ∧ H2 = upd (upd H d (.dK (dkv w c r (u + 1)))) L (.lst [V.int 2147483647, V.int 2147483629, V.int 2147483587, V.int 2147483579]))
      ⟨0, none, none, none, Int.le_refl _, rfl, rfl⟩ (fun i σ H2 _ ⟨_, _, _, _, _, _, e⟩ => by rw [e]; exact SqL.of upd_same) ?_ ?_⟩
    · rintro i x σ H2 hi ⟨z, v3, v4, v5, z0, rfl, rfl⟩
      obtain ⟨p, rfl, p1, p2⟩ := prime_at hi
      refine ⟨_, rfl, _, _, rfl, rfl, .inl ⟨by decide, by decide⟩, _, rfl, _, _, rfl, rfl, ⟨by decide, by decide⟩, _, _, rfl, rfl, ?_⟩
      -- for grain in draw['cells']
      refine ⟨_, rfl, d, _, rfl, (by rw [← dkv_c (w := w) (c := c) (r := r) (t := u + 1)]; exact DGet.k (k := Sum.inr ("cells" : Str)) (g1 _)), c, rfl, ⟨_, SqL.of (g3 _)⟩, for_list (K := K) (a := c) (xs := cs.map V.int)
        (fun i σ H2 => ∃ (b : Int) (v5 : Option V), 0 ≤ b ∧ b < 18446744073709551616 ∧ σ = [some (.ref d), some (.int (u + 1)), some (.int z), some (.int p), some (.int b), v5] ∧ H2 = upd (upd H d (.dK (dkv w c r (u + 1)))) L (.lst [V.int 2147483647, V.int 2147483629, V.int 2147483587, V.int 2147483579]))
        ⟨48271 * (u + 1) + p / 37, v5, by omega, by omega, rfl, rfl⟩ (fun i σ H2 _ ⟨_, _, _, _, _, e⟩ => by rw [e]; exact SqL.of (g3 _)) ?_ ?_⟩
      · rintro j y σ H2 hj ⟨b, v5, b0, b1, rfl, rfl⟩
        obtain ⟨y, hy, rfl⟩ := int_at hj
        refine ⟨_, rfl, _, _, rfl, rfl, .inr ⟨by decide, by decide⟩, _, rfl, _, _, rfl, rfl, _, rfl, _, _, rfl, rfl, .inl ⟨_, rfl, ?_⟩⟩
        refine ⟨_, rfl, _, _, rfl, rfl, by omega, ?_⟩
        have e0 := Int.emod_nonneg (b * 69621 + y + (u + 1)) (show p ≠ 0 by omega)
        have e1 := Int.emod_lt_of_pos (b * 69621 + y + (u + 1)) (show (0 : Int) < p by omega)
        exact ⟨_, _, e0, by omega, rfl, rfl⟩
      · rintro σ H2 ⟨b, v5, b0, b1, rfl, rfl⟩
        refine ⟨_, rfl, _, _, rfl, rfl, .inr ⟨by decide, by decide⟩, _, rfl, _, _, rfl, rfl, ⟨by decide, by decide, by omega⟩, .inl ⟨_, rfl, ?_⟩⟩
        refine ⟨_, rfl, _, _, rfl, rfl, by omega, _, _, rfl, rfl, ?_⟩
        have e0 := Int.emod_nonneg (b ^ (5 : Int).toNat) (show p ≠ 0 by omega)
        have e1 : 0 ≤ z * 2147483647 := Int.mul_nonneg z0 (by decide)
        exact ⟨_, _, _, _, Int.add_nonneg e1 e0, rfl, rfl⟩
    · rintro σ H2 ⟨z, v3, v4, v5, z0, rfl, rfl⟩
      refine ⟨_, rfl, ?_⟩
      refine k z _ z0 ⟨ws, cs, r, u + 1, g1 _, g2 _, g3 _, wc, w0, c0, r0, by omega, by omega, wl⟩ fun b o e hb hw' => ?_
      rw [upd_ne (ne_of_none e hL0), upd_ne hb]
      exact e
theorem scK : FnScope ["draw", "many", "found"] ["draw", "many"] (defScope sTake) := ⟨rfl, rfl, rfl, by decide +kernel, rfl, by decide +kernel, by decide +kernel⟩
/-- the draw with its parts told -/
structure DX (H : Hp) (d w c : Addr) (ws cs : List Int) (r u : Int) : Prop where
  hd : H d = some (.dK (dkv w c r u))
  hw : H w = some (.lst (ws.map V.int))
  hc : H c = some (.lst (cs.map V.int))
  wc : w ≠ c
  w0 : ∀ z ∈ ws, 0 ≤ z
  c0 : ∀ z ∈ cs, 0 ≤ z ∧ z < 2147483629
  r0 : 0 ≤ r
  u0 : 0 ≤ u
  wl : ws.length ≤ 63
theorem DX.draw {H : Hp} {d w c : Addr} {ws cs : List Int} {r u t : Int} (D : DX H d w c ws cs r u) (h : u ≤ t) : Draw H d w c t := ⟨ws, cs, r, u, D.hd, D.hw, D.hc, D.wc, D.w0, D.c0, D.r0, D.u0, h, D.wl⟩
theorem Draw.dx {H : Hp} {d w c : Addr} {t : Int} (D : Draw H d w c t) : ∃ ws cs r u, DX H d w c ws cs r u ∧ u ≤ t := by
  obtain ⟨ws, cs, r, u, hd, hw, hc, wc, w0, c0, r0, u0, ut, wl⟩ := D
  exact ⟨ws, cs, r, u, ⟨hd, hw, hc, wc, w0, c0, r0, u0, wl⟩, ut⟩
theorem Draw.mono {H : Hp} {d w c : Addr} {t t' : Int} (D : Draw H d w c t) (h : t ≤ t') : Draw H d w c t' := by
  obtain ⟨ws, cs, r, u, D, ut⟩ := D.dx
  exact D.draw (Int.le_trans ut h)
section
variable {H : Hp} {d w c : Addr} {ws cs : List Int} {r u : Int}
theorem DX.getR (D : DX H d w c ws cs r u) : DGet H d (V.str ("rest" : Str)) (some (.int r)) := by
  rw [← dkv_r (w := w) (c := c) (r := r) (t := u)]
  exact DGet.k (k := Sum.inr ("rest" : Str)) D.hd
theorem DX.getW (D : DX H d w c ws cs r u) : DGet H d (V.str ("wide" : Str)) (some (.ref w)) := by
  rw [← dkv_w (w := w) (c := c) (r := r) (t := u)]
  exact DGet.k (k := Sum.inr ("wide" : Str)) D.hd
theorem DX.putR (D : DX H d w c ws cs r u) (z : Int) : DPut H d (V.str ("rest" : Str)) (.int z) (upd H d (.dK (dkv w c z u))) := by
  rw [← dkv_putR (w := w) (c := c) (r := r) (t := u)]
  exact DPut.k (k := Sum.inr ("rest" : Str)) D.hd (by show 4 < sizeLine; decide)
theorem DX.wd (D : DX H d w c ws cs r u) : w ≠ d := ne_of D.hw D.hd (by intro q; cases q)
theorem DX.cd (D : DX H d w c ws cs r u) : c ≠ d := ne_of D.hc D.hd (by intro q; cases q)
theorem DX.set (D : DX H d w c ws cs r u) {z : Int} (hz : 0 ≤ z) : DX (upd H d (.dK (dkv w c z u))) d w c ws cs z u :=
  ⟨upd_same, by rw [upd_ne D.wd]; exact D.hw, by rw [upd_ne D.cd]; exact D.hc, D.wc, D.w0, D.c0, hz, D.u0, D.wl⟩
end
theorem dp_ints {K : PySem.W.Frag} {H : Hp} : ∀ ns : List Int, DpAll K H (ns.map V.int) (ns.map PyData.int)
  | [] => .nil
  | n :: ns => .cons (.int n) (dp_ints ns)
theorem But.refl {d w : Addr} {H : Hp} : But d w H H := fun _ _ e _ _ => e
theorem But.trans {d w : Addr} {H H1 H2 : Hp} (a : But d w H H1) (b : But d w H1 H2) : But d w H H2 := fun p o e h1 h2 => b p o (a p o e h1 h2) h1 h2
theorem But.setD {d w : Addr} {H : Hp} {o : HO} : But d w H (upd H d o) := fun p q e h1 _ => by
  rw [upd_ne h1]
  exact e
theorem But.setW {d w : Addr} {H : Hp} {o : HO} : But d w H (upd H w o) := fun p q e _ h1 => by
  rw [upd_ne h1]
  exact e
theorem But.new {d w p : Addr} {H : Hp} {o : HO} (h : H p = none) : But d w H (upd H p o) := fun b q e _ _ => by
  rw [upd_ne (ne_of_none e h)]
  exact e
theorem ok_take {f fM : Addr} {fd fdM : FuncData} (F : Fun K "_law_take" "_law_take" sTake f fd) (T : DTxt mg) (FM : Fun K "_law_mixed" "_law_mixed" sMixed fM fdM) (bM : Binds K fdM ["draw"] []) (gM : mg "_law_mixed" = some (.ref fM)) :
    FnOk P w K mg base CX0 2 f fd ["draw", "many"] spTake := by
  have GM : FnOk P w K mg base CX0 1 fM fdM ["draw"] spMixed := ok_mixed FM T
  refine F.ok scK (fun vs H Q E h => ?_) (fun cdv A outer s H vs Q E hr h => ?_)
  · obtain ⟨d, w, c, t, many, rfl, _⟩ := h
    rfl
  · obtain ⟨d, w, c, t, many, rfl, D0, tl, m0, m1, k⟩ := h
    have hu := hu_of hr
    refine ⟨_, pss_cons (ps_if (pt_cmpR op_eq (pe_dget hu (pv 0) pe_str (fun _ _ => rfl)) pe_int (nomark _))
        (pss_one (ps_dput hu (pv 0) pe_str (pe_ifExp (pt_cmpR (op_neD hr.units) (pe_dget hu (pv 0) pe_str (fun _ _ => rfl)) (pe_lst pa_nil) (nomark _))
          (pe_bm PySem.F.plainAttrs_list PySem.F.slot_list_pop PySem.F.type_list_pop mt_popAt (pe_dget hu (pv 0) pe_str (fun _ _ => rfl)) (pa_cons pe_int pa_nil))
          (pe_call GM hr rfl gM FM.kp bM .nil pass0 (pa_cons (pv 0) pa_nil))) rfl)) pss_nil)
      (pss_cons (ps_set (i := 2) scK.nd rfl (Or.inl rfl) (pe_op op_mod (pe_callTy call_int1 (by rfl) T.int (by decide +kernel) (pa_cons (pe_dget hu (pv 0) pe_str (fun _ _ => rfl)) pa_nil)) (pv 1)))
      (pss_cons (ps_dput hu (pv 0) pe_str (pe_op op_fdiv (pe_dget hu (pv 0) pe_str (fun _ _ => rfl)) (pv 1)) rfl)
      (pss_one (ps_ret (pv 2))))), ?_⟩
    obtain ⟨ws, cs, r, u, D, ut⟩ := D0.dx
    refine ⟨_, rfl, d, _, rfl, D.getR, rfl, _, rfl, ?_⟩
    refine ite2 (fun _ => ?_) (fun _ => ?_)
    · -- the rest is 0
      refine ⟨_, rfl, d, _, rfl, D.getW, by show 0 ≤ sizeLine; decide, fun e he => ?_⟩
      have wd := D.wd
      have cd := D.cd
      have de : d ≠ e := ne_of_none D.hd he
      have we : w ≠ e := ne_of_none D.hw he
      have ce : c ≠ e := ne_of_none D.hc he
      have De : DX (upd H e (.lst [])) d w c ws cs r u := ⟨by rw [upd_ne de]; exact D.hd, by rw [upd_ne we]; exact D.hw, by rw [upd_ne ce]; exact D.hc, D.wc, D.w0, D.c0, D.r0, D.u0, D.wl⟩
      refine ⟨.list (ws.map PyData.int), .list [], .lst (SqL.of De.hw) (dp_ints _), .lst (SqL.of upd_same) .nil, PySem.W.ke_shaped_ints ws, PySem.W.ke_shaped_ints [], _, rfl, ?_⟩
      cases ws with
      | nil =>
        refine iteF ?_
        refine ⟨_, rfl, d, w, c, t, rfl, De.draw ut, tl, fun x H1 x0 D1 B1 => ?_⟩
        obtain ⟨ws1, cs1, r1, u1, D1, ut1⟩ := D1.dx
        refine ⟨_, rfl, d, _, rfl, D1.putR _, ?_⟩
        have D2 := D1.set x0
        refine ⟨_, rfl, d, _, rfl, D2.getR, .inl ⟨_, rfl, _, rfl, _, _, rfl, rfl, m0, ?_⟩⟩
        refine ⟨_, rfl, d, _, rfl, D2.getR, _, rfl, _, _, rfl, rfl, ⟨m0, m1⟩, _, rfl, d, _, rfl, D2.putR _, _, rfl, ?_⟩
        exact k _ _ (Int.emod_nonneg _ (by omega)) (Int.emod_lt_of_pos _ m0) ((D2.set (Int.ediv_nonneg x0 (by omega))).draw ut1) ((((But.new he).trans B1).trans But.setD).trans But.setD)
      | cons z ws =>
        refine iteT ?_
        refine ⟨_, rfl, d, _, rfl, De.getW, .inl ⟨rfl, _, SqL.of De.hw⟩, w, _, _, 0, _, rfl, rfl, De.hw, by decide, by decide, (by simp [seqIndex?]), rfl, ?_⟩
        have x0 : 0 ≤ z := De.w0 z (List.mem_cons.mpr (.inl rfl))
        have D1 : DX (upd (upd H e (.lst [])) w (.lst ((List.map V.int (z :: ws)).eraseIdx 0))) d w c ws cs r u :=
          ⟨by rw [upd_ne wd.symm]; exact De.hd, upd_same, by rw [upd_ne D.wc.symm]; exact De.hc, D.wc, fun y hy => D.w0 y (List.mem_cons.mpr (.inr hy)), D.c0, D.r0, D.u0, Nat.le_trans (Nat.le_succ _) D.wl⟩
        refine ⟨_, rfl, d, _, rfl, D1.putR _, ?_⟩
        have D2 := D1.set x0
        refine ⟨_, rfl, d, _, rfl, D2.getR, .inl ⟨_, rfl, _, rfl, _, _, rfl, rfl, m0, ?_⟩⟩
        refine ⟨_, rfl, d, _, rfl, D2.getR, _, rfl, _, _, rfl, rfl, ⟨m0, m1⟩, _, rfl, d, _, rfl, D2.putR _, _, rfl, ?_⟩
        exact k _ _ (Int.emod_nonneg _ (by omega)) (Int.emod_lt_of_pos _ m0) ((D2.set (Int.ediv_nonneg x0 (by omega))).draw (by omega)) ((((But.new he).trans But.setW).trans But.setD).trans But.setD)
    · refine ⟨_, rfl, d, _, rfl, D.getR, .inl ⟨_, rfl, _, rfl, _, _, rfl, rfl, m0, ?_⟩⟩
      refine ⟨_, rfl, d, _, rfl, D.getR, _, rfl, _, _, rfl, rfl, ⟨m0, m1⟩, _, rfl, d, _, rfl, D.putR _, _, rfl, ?_⟩
      exact k _ _ (Int.emod_nonneg _ (by omega)) (Int.emod_lt_of_pos _ m0) ((D.set (Int.ediv_nonneg D.r0 (by omega))).draw (by omega)) But.setD
theorem scP : FnScope ["draw", "some"] ["draw", "some"] (defScope sPick) := ⟨rfl, rfl, rfl, by decide +kernel, rfl, by decide +kernel, by decide +kernel⟩
theorem ok_pick {f fT fM : Addr} {fd fdT fdM : FuncData} (F : Fun K "_law_pick" "_law_pick" sPick f fd) (T : DTxt mg) (FT : Fun K "_law_take" "_law_take" sTake fT fdT) (bT : Binds K fdT ["draw", "many"] []) (gT : mg "_law_take" = some (.ref fT))
    (FM : Fun K "_law_mixed" "_law_mixed" sMixed fM fdM) (bM : Binds K fdM ["draw"] []) (gM : mg "_law_mixed" = some (.ref fM)) : FnOk P w K mg base CX0 3 f fd ["draw", "some"] (spPick K) := by
  have GT : FnOk P w K mg base CX0 2 fT fdT ["draw", "many"] spTake := ok_take FT T FM bM gM
  refine F.ok scP (fun vs H Q E h => ?_) (fun cdv A outer s H vs Q E hr h => ?_)
  · obtain ⟨d, w, c, l, t, xs, rfl, _⟩ := h
    rfl
  · obtain ⟨d, w, c, l, t, xs, rfl, D, tl, hS, ld, lw, x0, x1, k⟩ := h
    refine ⟨_, pss_one (ps_ret (pe_ix ix_list (pv 1) (pe_call GT hr rfl gT FT.kp bT .nil pass0 (pa_cons (pv 0) (pa_cons (pe_callB call_len_seq (by rfl) T.len PySem.boot_len (pa_cons (pv 1) pa_nil)) pa_nil))) (fun _ _ => rfl))), ?_⟩
    have hpos : 0 < xs.length := List.length_pos_iff.mpr x0
    refine ⟨_, rfl, _, rfl, _, rfl, l, _, rfl, .inl hS, d, w, c, t, (xs.length : Int), rfl, D, tl, by omega, by omega, fun x H1 h0 h1 D1 B1 => ?_⟩
    have hS1 : SqL K H1 l xs := by
      rcases hS with (q | ⟨o, q⟩) | q
      · exact .inl (.inl (B1 _ _ q ld lw))
      · exact .inl (.inr ⟨o, B1 _ _ q ld lw⟩)
      · exact .inr q
    obtain ⟨n, rfl⟩ : ∃ n : Nat, x = (n : Int) := ⟨x.toNat, by omega⟩
    have hn : n < xs.length := by omega
    exact ⟨l, xs, _, xs[n], rfl, rfl, hS1, atI_nat (List.getElem?_eq_getElem hn), k _ _ (List.getElem_mem hn) D1 B1⟩
end
end Any
set_option Elab.async false
set_option linter.all false
set_option maxRecDepth 100000
set_option maxHeartbeats 4000000
/-! The text's defs by their places. -/
namespace Any
open PySem PySem.Spec PyProof.Rows L2
open He (ga ma)
abbrev sIsNumber : Stmt := top 7
abbrev sIsBetween : Stmt := top 8
abbrev sIsWord : Stmt := top 9
abbrev sIsRow : Stmt := top 10
abbrev sIsName : Stmt := top 14
abbrev sIsHeaded : Stmt := top 18
abbrev sChildrenOf : Stmt := top 19
abbrev sIsNode : Stmt := top 20
abbrev sIsEach : Stmt := top 21
abbrev sNodesOf : Stmt := top 22
abbrev sIsTree : Stmt := top 23
abbrev sNamesOnly : Stmt := top 24
abbrev sOpenKind : Stmt := top 25
abbrev sIsProgram : Stmt := top 27
abbrev sIsProgramWith : Stmt := top 28
abbrev sAreVariables : Stmt := top 29
abbrev sAreParts : Stmt := top 30
abbrev sPartsOf : Stmt := top 31
abbrev sPlaces : Stmt := top 32
abbrev sPlacesOf : Stmt := top 33
abbrev sPlacesByKind : Stmt := top 34
abbrev sIsExpression : Stmt := top 36
abbrev sLawBegun : Stmt := top 38
abbrev sLawMixed : Stmt := top 39
abbrev sLawTake : Stmt := top 40
abbrev sLawPick : Stmt := top 41
abbrev sLawShuffled : Stmt := top 42
abbrev sLawNames : Stmt := top 43
abbrev sLawOps : Stmt := top 44
abbrev sLawLeaf : Stmt := top 45
abbrev sLawExpression : Stmt := top 46
abbrev sLawLoop : Stmt := top 47
abbrev sLawProgram : Stmt := top 48
abbrev sLawPlacesIn : Stmt := top 49
abbrev sLawBodies : Stmt := top 50
abbrev sLawPlaces : Stmt := top 51
abbrev sLawPaths : Stmt := top 52
abbrev sLawPartAt : Stmt := top 53
abbrev sLawPutAt : Stmt := top 54
abbrev sLawOdd : Stmt := top 55
abbrev sLawBent : Stmt := top 56
abbrev sLawIsWhole : Stmt := top 57
abbrev sLawIsOne : Stmt := top 58
abbrev sLawIsName : Stmt := top 59
abbrev sLawIsExpression : Stmt := top 60
abbrev sLawIsProgram : Stmt := top 61
abbrev sLawFits : Stmt := top 62
abbrev sLawReserved : Stmt := top 63
abbrev sLawError : Stmt := top 64
abbrev sLawMoreParts : Stmt := top 65
abbrev sLaw : Stmt := top 66
/-- the defs and classes of the text stand under their names -/
structure DS (K : PySem.W.Frag) (mg : Str → Option Value) : Prop where
  aIsNumber : At K mg "is_number" sIsNumber
  aIsBetween : At K mg "is_between" sIsBetween
  aIsWord : At K mg "is_word" sIsWord
  aIsRow : At K mg "is_row" sIsRow
  aIsName : At K mg "is_name" sIsName
  aIsHeaded : At K mg "is_headed" sIsHeaded
  aChildrenOf : At K mg "children_of" sChildrenOf
  aIsNode : At K mg "is_node" sIsNode
  aIsEach : At K mg "is_each" sIsEach
  aNodesOf : At K mg "nodes_of" sNodesOf
  aIsTree : At K mg "is_tree" sIsTree
  aNamesOnly : At K mg "names_only" sNamesOnly
  aOpenKind : At K mg "open_kind" sOpenKind
  aIsProgram : At K mg "is_program" sIsProgram
  aIsProgramWith : At K mg "is_program_with" sIsProgramWith
  aAreVariables : At K mg "are_variables" sAreVariables
  aAreParts : At K mg "are_parts" sAreParts
  aPartsOf : At K mg "parts_of" sPartsOf
  aPlaces : At K mg "places" sPlaces
  aPlacesOf : At K mg "places_of" sPlacesOf
  aPlacesByKind : At K mg "places_by_kind" sPlacesByKind
  aIsExpression : At K mg "is_expression" sIsExpression
  aLawBegun : At K mg "_law_begun" sLawBegun
  aLawMixed : At K mg "_law_mixed" sLawMixed
  aLawTake : At K mg "_law_take" sLawTake
  aLawPick : At K mg "_law_pick" sLawPick
  aLawShuffled : At K mg "_law_shuffled" sLawShuffled
  aLawNames : At K mg "_law_names" sLawNames
  aLawOps : At K mg "_law_ops" sLawOps
  aLawLeaf : At K mg "_law_leaf" sLawLeaf
  aLawExpression : At K mg "_law_expression" sLawExpression
  aLawLoop : At K mg "_law_loop" sLawLoop
  aLawProgram : At K mg "_law_program" sLawProgram
  aLawPlacesIn : At K mg "_law_places_in" sLawPlacesIn
  aLawBodies : At K mg "_law_bodies" sLawBodies
  aLawPlaces : At K mg "_law_places" sLawPlaces
  aLawPaths : At K mg "_law_paths" sLawPaths
  aLawPartAt : At K mg "_law_part_at" sLawPartAt
  aLawPutAt : At K mg "_law_put_at" sLawPutAt
  aLawOdd : At K mg "_law_odd" sLawOdd
  aLawBent : At K mg "_law_bent" sLawBent
  aLawIsWhole : At K mg "_law_is_whole" sLawIsWhole
  aLawIsOne : At K mg "_law_is_one" sLawIsOne
  aLawIsName : At K mg "_law_is_name" sLawIsName
  aLawIsExpression : At K mg "_law_is_expression" sLawIsExpression
  aLawIsProgram : At K mg "_law_is_program" sLawIsProgram
  aLawFits : At K mg "_law_fits" sLawFits
  aLawReserved : At K mg "_law_reserved" sLawReserved
  aLawError : At K mg "_law_error" sLawError
  aLawMoreParts : At K mg "_law_more_parts" sLawMoreParts
  aLaw : At K mg "law" sLaw
  cMakerError : mg "MakerError" = some (.ref (ga K "MakerError"))
  cBadKind : mg "BadKind" = some (.ref (ga K "BadKind"))
  cBadProgram : mg "BadProgram" = some (.ref (ga K "BadProgram"))
end Any
set_option Elab.async false
set_option linter.all false
set_option maxRecDepth 100000
set_option maxHeartbeats 4000000
/-! The draws by their names; what stays but a draw and more. -/
namespace Any
open PySem PySem.Spec PyProof.Rows L2
open He (ga ma)
/-- the built-ins' names are free -/
structure TF (mg : Str → Option Value) : Prop where
  abs : mg "abs" = none
  int : mg "int" = none
  len : mg "len" = none
  isinstance : mg "isinstance" = none
  bool : mg "bool" = none
  str : mg "str" = none
  tuple : mg "tuple" = none
  list : mg "list" = none
  all : mg "all" = none
  set : mg "set" = none
  sorted : mg "sorted" = none
  reversed : mg "reversed" = none
  range : mg "range" = none
  enumerate : mg "enumerate" = none
  repr : mg "repr" = none
  min : mg "min" = none
  ValueError : mg "ValueError" = none
theorem TF.d {mg : Str → Option Value} (T : TF mg) : DTxt mg := ⟨T.abs, T.int, T.len⟩
section
variable {P : Program} {w : World} {K : PySem.W.Frag} {mg : Str → Option Value} {base : Heap}
theorem hLawBegun (D : DS K mg) (T : TF mg) : Has P w K mg base CX0 "_law_begun" sLawBegun ["script"] 1 (spBegun K) := by
  obtain ⟨⟨fd, F⟩, g⟩ := D.aLawBegun
  exact ⟨⟨fd, F, ok_begun F T.d, F.binds fun _ _ _ _ _ _ us hl => match us, hl with | [_], _ => rfl⟩, g, F.kp⟩
theorem hLawTake (D : DS K mg) (T : TF mg) : Has P w K mg base CX0 "_law_take" sLawTake ["draw", "many"] 2 spTake := by
  obtain ⟨⟨fd, F⟩, g⟩ := D.aLawTake
  obtain ⟨⟨fd2, F2⟩, g2⟩ := D.aLawMixed
  exact ⟨⟨fd, F, ok_take F T.d F2 (F2.binds fun _ _ _ _ _ _ us hl => match us, hl with | [_], _ => rfl) g2, F.binds fun _ _ _ _ _ _ us hl => match us, hl with | [_, _], _ => rfl⟩, g, F.kp⟩
theorem hLawPick (D : DS K mg) (T : TF mg) : Has P w K mg base CX0 "_law_pick" sLawPick ["draw", "some"] 3 (spPick K) := by
  obtain ⟨⟨fd, F⟩, g⟩ := D.aLawPick
  obtain ⟨⟨fd1, F1⟩, g1⟩ := D.aLawTake
  obtain ⟨⟨fd2, F2⟩, g2⟩ := D.aLawMixed
  exact ⟨⟨fd, F, ok_pick F T.d F1 (F1.binds fun _ _ _ _ _ _ us hl => match us, hl with | [_, _], _ => rfl) g1 F2 (F2.binds fun _ _ _ _ _ _ us hl => match us, hl with | [_], _ => rfl) g2, F.binds fun _ _ _ _ _ _ us hl => match us, hl with | [_, _], _ => rfl⟩, g, F.kp⟩
end
end Any
set_option Elab.async false
set_option linter.all false
set_option maxRecDepth 100000
set_option maxHeartbeats 4000000
/-! A caught error as a tracked thing; lambdas as values, called by a def that got one. -/
namespace Any
open PySem PySem.Spec PySem.W PyProof.Rows L2 LamX
/-- at a stands an error of the class cls with the dict d -/
def ErO (cls : Value) (d : Option Addr) (a : Addr) : HO := .ext fun h => ∃ (oe : Obj) (vs : Array Value), h.get? a = some oe ∧ Zc cls d oe ∧ oe.data = .fields vs
section
variable {X : Cx} {L pins : List (Addr × Obj)} {σ : L2.St} {H : Hp} {s : Shared} {a : Addr} {q : Addr × Obj} {xe : Value → Shared → Prop}
/-- an object that is new since the entry is tracked from now on -/
theorem track {φ : Heap → Prop} (I : Inv X pins σ H s) (na : H a = none) (n0 : X.s_0.heap.get? a = none) (nL : a ≠ X.env.locals) (nC : ∀ x c, X.env.cells.lookup x = some c → c ≠ a) (np : ∀ p ∈ X.pn ++ pins, p.1 ≠ a)
    (ok : φ s.heap ∧ (∃ o, s.heap.get? a = some o) ∧ ∀ h1 h2 : Heap, φ h1 → (∀ o, h1.get? a = some o → h2.get? a = some o) → φ h2) : Inv X pins σ (upd H a (.ext φ)) s := by
  have nb : ∀ b u, H b = some u → b ≠ a := fun b u e => ne_of_none e na
  refine ⟨I.ok, I.os, I.bare, ⟨I.base.keep, I.base.slot, fun b o e n hx => ?_, I.base.there, fun b xs e => ?_, fun b o u e => ?_, fun b ps e => ?_⟩, I.loc, I.cell, ?_, fun x c e => ?_, fun p hp => ?_, fun b u e => ?_, I.len⟩
  · rw [upd_ne (fun z => by rw [z, n0] at e; cases e)]
    exact I.base.free b o e n hx
  · have z := I.base.tups b xs e
    rw [upd_ne (nb b _ z)]
    exact z
  · have z := I.base.frzs b o u e
    rw [upd_ne (nb b _ z)]
    exact z
  · obtain ⟨m, z⟩ := I.base.tbls b ps e
    exact ⟨m, by rw [upd_ne (nb b _ z)]; exact z⟩
  · rw [upd_ne nL.symm]
    exact I.free
  · rw [upd_ne (nC x c e)]
    exact I.freeC x c e
  · obtain ⟨e, n, r⟩ := I.pin p hp
    exact ⟨e, by rw [upd_ne (np p hp)]; exact n, r⟩
  · by_cases hb : b = a
    · subst hb
      rw [upd_same] at e
      cases e
      exact ok
    · rw [upd_ne hb] at e
      exact (I.hok b u e).stay (fun c v _ q => q) (fun c q => by rw [upd_ne (nb c _ q)]; exact q) fun c xs q => by rw [upd_ne (nb c _ q)]; exact q
theorem toSuite (I : Inv X pins σ H s) : Inv (X.suite a (X.pn ++ pins)) [] σ H s :=
  ⟨I.ok.suite _ _, I.os, I.bare, I.base, I.loc, I.cell, I.free, I.freeC, fun p hp => I.pin p (by rw [List.append_nil] at hp; exact hp), I.hok, I.len⟩
theorem ofSuite {pn' : List (Addr × Obj)} (I : Inv (X.suite a (X.pn ++ pins)) pn' σ H s) (ok : X.Ok) : Inv X pins σ H s :=
  ⟨ok, I.os, I.bare, I.base, I.loc, I.cell, I.free, I.freeC, fun p hp => I.pin p (List.mem_append_left _ hp), I.hok, I.len⟩
end
/-- what the clause 'except x as n' wishes, the error tracked from there on -/
def wErr (K : PySem.W.Frag) (c : Value) (i : Nat) (ts : Addr → TS) (Wout : WX) (D : Ends) : WX := fun cls d σ H =>
  ∃ b, PySem.W.exmOne K cls c = some b ∧ (b = true → ∀ a, H a = none → ts a { nx := fun σ' H' => D.nx (σ'.set i none) H', rt := D.rt, bk := fun σ' H' => D.bk (σ'.set i none) H', ct := fun σ' H' => D.ct (σ'.set i none) H' } (σ.set i (some (.ref a))) (upd H a (ErO cls d a))) ∧
    (b = false → Wout cls d σ H)
section
variable {X : Cx} {x n : Str} {c : Value} {i : Nat} {body suite : List Stmt} {b₀ : Stmt} {np pos pos' : Pos} {tb : WX → TS} {ts : Addr → TS} {Wout : WX}
theorem caught_err {pins : List (Addr × Obj)} {u : Value} {s : Shared} {D : Ends} (ok : X.Ok) (onTop : X.stack = X.env :: X.outer) (frm : X.env.frame = some X.env.locals) (hex : X.ex = []) (nd : X.N.Nodup) (at_ : X.N[i]? = some n) (loc : X.env.kindOf n = some .local) (hc : Names X x c) (tk : Takes X Wout)
    (inSuite : ∀ (a : Addr) (pn : List (Addr × Obj)), PSs (X.suite a pn) (b₀ :: suite) (ts a))
    (air : XE (X.tr (X.pn ++ pins) fun e s₁ => wpAny (model X.prog X.w) X.A (noteFrame e X.env) (fun _ s₂ => wpAny (model X.prog X.w) X.A (setFlight e none) (fun _ s₃ => wpAny (model X.prog X.w) X.A (handleBy e X.env [.ExceptHandler (some (.Name x np)) (some n) (b₀ :: suite) pos']) (SP X pins D) X.xe s₃) X.xe s₂) X.xe s₁)
      (wErr X.K c i ts Wout D) u s) :
    wpAny (model X.prog X.w) X.A (noteFrame u X.env) (fun _ s₂ => wpAny (model X.prog X.w) X.A (setFlight u none) (fun _ s₃ => wpAny (model X.prog X.w) X.A (handleBy u X.env [.ExceptHandler (some (.Name x np)) (some n) (b₀ :: suite) pos']) (SP X pins D) X.xe s₃) X.xe s₂) X.xe s := by
  obtain ⟨a, B, sI, pins', σ, H, cls, d, eu, I', kept, up, sky, new, os, bare, b, is_, yes, no⟩ := air
  subst eu
  have I : Inv X pins σ H sI := I'.ofTry ok
  have tops : X.A.frames = some (X.env :: X.outer) := ok.frames.trans (by rw [onTop])
  refine Sky.land (Z := Zc cls d) Zc.steady tops frm (onTop ▸ sky) fun h fly up1 => ?_
  obtain ⟨o1, at1, z1, _, J1, S1⟩ := grounded (s := s) onTop frm I kept fly (up.trans up1) new os bare
  have looks : PySem.W.Looks (model X.prog X.w) h (typeOf (.ref a)) cls := fun _ _ _ _ same q => wpAny_typeOf_ref (same a o1 at1) (z1.1 ▸ q)
  refine wpAny_handleBy_cons (codeAny_handlers_test (clause_class hc S1 ((PySem.W.exm_one (M := model X.prog X.w) J1.kIn looks is_).here ?_))) fun z => nomatch z
  cases b with
  | false =>
    refine (show wpAny (model X.prog X.w) X.A (handleBy (.ref a) X.env []) _ _ _ from wpAny_handleBy_nil ?_)
    have out : wpAny (model X.prog X.w) X.A (setFlight (.ref a) X.env.frame) (fun _ s4 => wpAny (model X.prog X.w) X.A (throw (.ref a) : Sem Flow) (SP X pins D) X.xe s4) X.xe { s with heap := h } := by
      rw [frm]
      exact PySem.HandSPX.setFlight_upZ fly fun h2 held up2 => wpAny_throw (tk _ _ ⟨a, B, sI, pins, σ, H, cls, d, rfl, I, kept, (up.trans up1).trans up2, .inr (.inr (onTop ▸ held)), new, os, bare, no rfl⟩)
    obtain ⟨_, _, _, o, vs, T, _, _, ao, _, dat, v1, _⟩ := id fly
    unfold PySem.passOn
    refine wpAny_bind (wpAny_field ao dat v1 ?_)
    have some_ : (Value.ref T == Value.none) = false := rfl
    simp only [some_, Bool.false_eq_true, if_false]
    first
      | exact wpAny_bind out
      | exact wpAny_bind (wpAny_pure (wpAny_bind out))
  | true =>
    refine codeAny_handlers_suite_as (PySem.HandSPX.lands_againZ fly fun h2 fly2 up2 => ?_)
    obtain ⟨o2, at2, z2, dat2, J2, S2⟩ := grounded (s := s) onTop frm I kept fly2 ((up.trans up1).trans up2) new os bare
    obtain ⟨_, _, nL, nF, _⟩ := S2.pin (a, o2) (List.mem_append_left _ (List.mem_cons_self ..))
    have nB : B.get? a = none := fly2.2.1
    have nSt : a ∉ frs X.stack := fun m => by
      rcases List.mem_cons.mp (I.stkSub _ m) with e | e
      · exact nL e
      · exact nF e
    have n0 : X.s_0.heap.get? a = none := by
      cases e : X.s_0.heap.get? a with
      | none => rfl
      | some o =>
        obtain ⟨o', e'⟩ := I.base.there a o e (by rw [hex]; exact List.not_mem_nil)
        rw [kept a o' e' nSt] at nB
        cases nB
    obtain ⟨vs2, hv2⟩ := dat2
    have T2 : Inv (X.suite a (X.pn ++ pins)) [] σ (upd H a (ErO cls d a)) { s with heap := h2 } := by
      refine toSuite (track J2 new n0 nL (fun y c e z => ?_) (fun p hp z => ?_) ⟨⟨o2, vs2, at2, z2, hv2⟩, ⟨o2, at2⟩, fun _ _ ⟨o, v, q, r⟩ k => ⟨o, v, k o q, r⟩⟩)
      · obtain ⟨v, o, ho, hd⟩ := J2.cell y c e
        rw [z] at ho
        cases at2.symm.trans ho
        rw [hv2] at hd
        cases hd
      · obtain ⟨e, _, e1, e2, _⟩ := I.pin p hp
        have : B.get? p.1 = some p.2 := kept _ _ e fun m => by
          rcases List.mem_cons.mp (I.stkSub _ m) with r | r
          · exact e1 r
          · exact e2 r
        rw [z, nB] at this
        cases this
    refine store_ok (X := X.suite a (X.pn ++ pins)) (v := .ref a) T2 nd at_ (.inl loc) rfl (fun s5 S5 => ?_) (.inr loc)
    refine wpAny_mono ((inSuite a (X.pn ++ pins)).run [] s5 _ _ _ S5 (yes rfl a new)) (fun fl s6 q => ?_) fun _ _ z => z.elim
    have gone : ∀ {σ6 : L2.St} {H6 : Hp} {Q : Shared → Prop}, Inv (X.suite a (X.pn ++ pins)) [] σ6 H6 s6 → (∀ s7, Inv X pins (σ6.set i none) H6 s7 → Q s7) →
        wpAny (model X.prog X.w) X.A (do bindName X.env n .none; unbindBehindTheSuite X.env n pos') (fun _ => Q) X.xe s6 := fun S k => gone_ok (X := X) (ofSuite S ok) nd at_ loc k
    cases fl with
    | next => exact let ⟨σ6, H6, S6, k⟩ := q; gone S6 fun _ J7 => ⟨_, _, J7, k⟩
    | ret v => exact let ⟨y, σ6, H6, S6, r, k⟩ := q; gone S6 fun _ J7 => ⟨y, _, _, J7, r, k⟩
    | _ => exact let ⟨σ6, H6, S6, k⟩ := q; gone S6 fun _ J7 => ⟨_, _, J7, k⟩
/-- try: body / except x as n: suite -/
theorem ps_try_err (onTop : X.stack = X.env :: X.outer) (frm : X.env.frame = some X.env.locals) (hex : X.ex = []) (nd : X.N.Nodup) (at_ : X.N[i]? = some n) (loc : X.env.kindOf n = some .local) (hc : Names X x c) (tk : Takes X Wout)
    (inBody : ∀ (W : WX) (pn : List (Addr × Obj)) (xe : Value → Shared → Prop), Takes (X.tr pn xe) W → PassesOwn (model X.prog X.w) X.A X.env xe → PSs (X.tr pn xe) body (tb W))
    (inSuite : ∀ (a : Addr) (pn : List (Addr × Obj)), PSs (X.suite a pn) (b₀ :: suite) (ts a)) :
    PS X (.Try body [.ExceptHandler (some (.Name x np)) (some n) (b₀ :: suite) pos'] [] [] pos) (fun D σ H => tb (wErr X.K c i ts Wout D) D σ H) := by
  refine ⟨fun pins s σ H D I reading => ?_⟩
  have ok := I.ok
  refine wpAny_Try_except (wpAny_mono ((inBody (wErr X.K c i ts Wout D) (X.pn ++ pins) (fun e s₁ => wpAny (model X.prog X.w) X.A (noteFrame e X.env) (fun _ s₂ => wpAny (model X.prog X.w) X.A (setFlight e none) (fun _ s₃ =>
    wpAny (model X.prog X.w) X.A (handleBy e X.env [.ExceptHandler (some (.Name x np)) (some n) (b₀ :: suite) pos']) (SP X pins D) X.xe s₃) X.xe s₂) X.xe s₁) (fun u s' air => caught_err ok onTop frm hex nd at_ loc hc tk inSuite air) PassesOwn.looking).run [] s σ H D (I.toTry _) reading) (fun fl s1 q => ?_) fun _ _ z => z)
  cases fl with
  | next => exact let ⟨σ1, H1, I1, k⟩ := q; wpAny_execs_nil ⟨σ1, H1, I1.ofTry ok, k⟩
  | ret v => exact let ⟨y, σ1, H1, I1, r, k⟩ := q; ⟨y, σ1, H1, I1.ofTry ok, r, k⟩
  | _ => exact let ⟨σ1, H1, I1, k⟩ := q; ⟨σ1, H1, I1.ofTry ok, k⟩
end
/-! ### the error is asked -/
theorem erO_inst {X : Cx} {pins : List (Addr × Obj)} {σ : L2.St} {H : Hp} {s : Shared} {a C dd : Addr} {fs : List (Str × V)} (I : Inv X pins σ H s) (ea : H a = some (ErO (.ref C) (some dd) a)) (e : H dd = some (.xd fs)) :
    ∃ oe od, InstAt s.heap a oe C (some od) ∧ ∀ f v, fs.lookup f = some v → ∃ u, lookIn f od = some (some u) ∧ RelV v u := by
  obtain ⟨⟨oe, vs, ha, hz, hd⟩, _⟩ := (show ObjOk X.prog X.w H s.heap a (.ext _) from I.hok a _ ea)
  have hx : ObjOk X.prog X.w H s.heap dd (.xd fs) := I.hok dd _ e
  obtain ⟨mA, hns, hr⟩ := hx
  obtain ⟨od, ho, hl⟩ := lookIn_ns hns
  refine ⟨oe, od, ⟨ha, hz.1, by unfold PySem.W.notCls; rw [hd], by rw [hz.2]; exact ho⟩, fun f v q => ?_⟩
  obtain ⟨u, hu, ru⟩ := RelO.some_of (v := v) (o := mA f) (by rw [← q]; exact hr f)
  exact ⟨u, by rw [hl, hu], ru⟩
theorem erO_inst0 {X : Cx} {pins : List (Addr × Obj)} {σ : L2.St} {H : Hp} {s : Shared} {a C : Addr} (I : Inv X pins σ H s) (ea : H a = some (ErO (.ref C) none a)) : ∃ oe, InstAt s.heap a oe C none := by
  obtain ⟨⟨oe, vs, ha, hz, hd⟩, _⟩ := (show ObjOk X.prog X.w H s.heap a (.ext _) from I.hok a _ ea)
  exact ⟨oe, ⟨ha, hz.1, by unfold PySem.W.notCls; rw [hd], by rw [hz.2]; exact True.intro⟩⟩
/-- isinstance(error, c) -/
def rIsEr (K : Frag) : List V → Hp → VK → Prop := fun xs H Q => ∃ (a C : Addr) (d : Option Addr) (c : V) (u : Value) (b : Bool), xs = [.ref a, c] ∧ H a = some (ErO (.ref C) d a) ∧ (d = none ∨ ∃ dd fs, d = some dd ∧ H dd = some (.xd fs)) ∧ ErrC K C ∧ ClsV c u ∧ kitOne K (.ref C) u = some b ∧ Q (.bl b) H
theorem call_isEr {X : Cx} : CallR X (.builtin "isinstance") (rIsEr X.K) := by
  intro pins s σ H xs us Q I r h
  obtain ⟨a, C, d, c, u, b, rfl, ea, hd, T, k, ek, q⟩ := h
  obtain ⟨u1, u2, rfl, r1, r2⟩ := vals2 r
  cases (show u1 = Value.ref a from r1)
  cases k.eq r2
  rcases hd with rfl | ⟨dd, fs, rfl, e⟩
  · obtain ⟨oe, J⟩ := erO_inst0 I ea
    exact kia_one (T.kit (x := a) (ox := oe) (od := none)) I.kIn J ek (fun z => nomatch z) fun tk => ⟨.bl b, H, I.tok tk, rfl, q⟩
  · obtain ⟨oe, od, J, _⟩ := erO_inst I ea e
    exact kia_one (T.kit (x := a) (ox := oe) (od := some od)) I.kIn J ek (fun z => nomatch z) fun tk => ⟨.bl b, H, I.tok tk, rfl, q⟩
/-- error.f -/
def tErF (K : Frag) (te : TE) (f : Str) : TE := fun σ H Q => te σ H fun x H1 => ∃ (a C dd : Addr) (fs : List (Str × V)) (v : V), x = .ref a ∧ H1 a = some (ErO (.ref C) (some dd) a) ∧ H1 dd = some (.xd fs) ∧ ErrC K C ∧ findIn K (.ref C) f = some none ∧ fs.lookup f = some v ∧ Q v H1
theorem pe_erF {X : Cx} {e : Expr} {te : TE} {f : Str} {pos : Pos} (he : PE X e te) (hb : attributeBase e f X.env (eval e X.env) = eval e X.env := by rfl) : PE X (.Attribute e f pos) (tErF X.K te f) := by
  refine ⟨fun pins s σ H Q I h => attr_of hb (thn (he.run pins s σ H _ I h) fun u s1 hh => ?_)⟩
  obtain ⟨x, H1, I1, rx, a, C, dd, fs, v, rfl, ea, e, T, hno, hl, q⟩ := hh
  cases (show u = Value.ref a from rx)
  obtain ⟨oe, od, J, hlk⟩ := erO_inst I1 ea e
  obtain ⟨u, hlo, ru⟩ := hlk f v hl
  exact PySem.HandSPX.exc_get I1.kIn J T.hg T.hk T.hs (findObj_own T.hd hno rfl hlo) (handed_of ru) ⟨v, H1, I1.tok _, ru, q⟩
/-! ### lambdas as values -/
def LamO (q : Str) (params : Arguments) (body : Expr) (scope : Scope) (cl : List (Str × Addr)) (f c' : Addr) : HO := .ext fun h => ∃ pm ctv, h.get? f = some (PySem.W.kla_obj "<lambda>" q params body scope cl pm c' ctv)
theorem lamO_ok {P : Program} {w : World} {q : Str} {params : Arguments} {body : Expr} {scope : Scope} {cl : List (Str × Addr)} {f c' : Addr} {pm ctv : Value} {H : Hp} {h : Heap} (e : h.get? f = some (PySem.W.kla_obj "<lambda>" q params body scope cl pm c' ctv)) :
    ObjOk P w H h f (LamO q params body scope cl f c') := ⟨⟨pm, ctv, e⟩, ⟨_, e⟩, fun _ _ ⟨pm, ctv, e⟩ k => ⟨pm, ctv, k _ e⟩⟩
/-- what stands but for the tables, when a table grows by a code object that is new -/
theorem grown {H : Hp} {P code : Addr} {q : Str} {old new : Array Value} (tb : H P = some (.tbl old)) (fresh : H code = none) : ExtN H (upd (upd H P (.tbl new)) code (CodeO code q)) := by
  intro b o e other
  have h1 : b ≠ code := ne_of_none e fresh
  have h2 : b ≠ P := by
    rintro rfl
    exact other old (Option.some.inj (e.symm.trans tb))
  rw [upd_ne h1, upd_ne h2, e]
theorem tabs_grown {T : List (Addr × Str)} {H : Hp} {P code : Addr} {q : Str} {old : Array Value} {pos : Pos} (tb : H P = some (.tbl old)) (fresh : H code = none) (all : Tabs T H) (mine : (P, q) ∈ T) (only : ∀ p ∈ T, p.1 = P → p.2 = q) :
    Tabs T (upd (upd H P (.tbl (old ++ #[rawInt pos.line, rawInt pos.col, .ref code]))) code (CodeO code q)) := by
  have keeps := grown (q := q) (new := old ++ #[rawInt pos.line, rawInt pos.col, .ref code]) tb fresh
  have list : (old ++ #[rawInt pos.line, rawInt pos.col, .ref code]).toList = old.toList ++ [rawInt pos.line, rawInt pos.col, .ref code] := Array.toList_append
  intro p hp
  obtain ⟨arr, at_, good, told⟩ := all p hp
  by_cases same : p.1 = P
  · have ea : arr = old := by
      rw [same, tb] at at_
      injection at_ with at_
      injection at_ with at_
      exact at_.symm
    subst ea
    have nP : P ≠ code := ne_of_none tb fresh
    rw [only p hp same] at told ⊢
    rw [same]
    refine ⟨_, (by rw [upd_ne nP, upd_same]), (list ▸ PySem.TriplesOk_snoc _ _ _ _ good), fun at' cv found => ?_⟩
    rw [list] at found
    cases among_app arr.toList good found with
    | inl before =>
      obtain ⟨b, eb, hb⟩ := told at' cv before
      exact ⟨b, eb, keeps b _ hb codeO_ne⟩
    | inr it => exact ⟨code, it, upd_same⟩
  · refine ⟨arr, (by rw [upd_ne (ne_of_none at_ fresh), upd_ne same, at_]), good, fun at' cv found => ?_⟩
    obtain ⟨b, eb, hb⟩ := told at' cv found
    exact ⟨b, eb, keeps b _ hb codeO_ne⟩
/-- the making of a lambda as a value: the closure tracked from then on -/
theorem lam_made {X : Cx} {pins : List (Addr × Obj)} {σ : L2.St} {H : Hp} {s : Shared} {T : List (Addr × Str)} {me P : Addr} {params : Arguments} {body : Expr} {scope : Scope} {lpos : Pos} {E Q : Value → Shared → Prop} (I : Inv X pins σ H s) (book : TabB X.base X.mg me P) (here : X.env.code = .ref me)
    (mine : (P, X.env.qual ++ "<lambda>") ∈ T) (only : ∀ p ∈ T, p.1 = P → p.2 = X.env.qual ++ "<lambda>") (all : Tabs T H) (none_ : defaultsOf params X.env = ([], [])) (caught : ∀ y ∈ scope.names, y.2 = .free → ∃ c, X.env.cells.lookup y.1 = some c)
    (then_ : ∀ (f code : Addr) (H1 : Hp) (s1 : Shared), Inv X pins σ (upd H1 f (LamO (X.env.qual ++ "<lambda>") params body scope (cloFrom X.env.cells scope.names []) f code)) s1 → ExtN H H1 → Tabs T H1 →
      H1 f = none → H1 code = some (CodeO code (X.env.qual ++ "<lambda>")) → Q (.ref f) s1) :
    wpAny (model X.prog X.w) X.A (eval (.Lambda params body scope lpos) X.env) Q E s := by
  obtain ⟨old, tb, good, told⟩ := all _ mine
  have hb : s.heap.BuiltinsAt X.mg P := book.bm.keeps I.bk
  have ht : s.heap.get? P = some { cls := .none, data := .fields old } := I.hok P _ tb
  have hglob := I.mod.glob.keeps I.bk
  have hcode := book.code.keeps I.bk
  apply PySem.W.kla_eval none_
  rcases e : codeAmong lpos old.toList with _ | known
  · apply PySem.W.kla_makeFunction (mg := X.mg) (c := me) (P := P) (ps := old) (closure_ok caught) I.ok.glob hglob here hcode ht good e book.gP hb
    intro code typ h1 tk kept above below record table
    obtain ⟨code', oc, vs, nt, ec, at_, fields, name⟩ := record
    injection ec with ec
    subst ec
    have fresh : H code = none := I.hok.fresh above
    have J := inv_table (q := X.env.qual ++ "<lambda>") (t' := tk) (more := #[rawInt lpos.line, rawInt lpos.col, .ref code]) (h' := h1) I tb (fun b o ne e => kept b o ne e) table above ⟨oc, vs, nt, at_, fields, name⟩
    have big : s.heap.objs.size ≤ h1.objs.size := Nat.le_trans above (Nat.le_of_lt below)
    refine then_ h1.objs.size code _ _ (J.laid (t' := tk) (fun b u e => Heap.get?_push_of_some _ e) (Nat.le_refl _) (lamO_ok (Heap.get?_push_size _ rfl))) (grown tb fresh) (tabs_grown tb fresh all mine only) ?_ upd_same
    exact J.hok.fresh (Nat.le_refl _)
  · obtain ⟨code, rfl, hcd⟩ := told lpos known e
    apply PySem.W.kla_makeFunctionHit (mg := X.mg) (c := me) (P := P) (ps := old) (closure_ok caught) I.ok.glob hglob here hcode ht good e hb
    intro typ h1 tk kept big
    have J : Inv X pins σ H { s with heap := h1, toks := tk } := I.kept fun b o e => kept b o e
    exact then_ h1.objs.size code H _ (J.laid (t' := tk) (fun b u e => Heap.get?_push_of_some _ e) (Nat.le_refl _) (lamO_ok (Heap.get?_push_size _ rfl))) (ExtN.refl H) all (I.hok.fresh big) hcd
def tLamV (T : List (Addr × Str)) (q : Str) (params : Arguments) (body : Expr) (scope : Scope) (cl : List (Str × Addr)) : TE := fun σ H Q => Tabs T H ∧ ∀ f c' H1, ExtN H H1 → Tabs T H1 → H1 f = none → H1 c' = some (CodeO c' q) → Q (.ref f) (upd H1 f (LamO q params body scope cl f c'))
/-- lambda: body -/
theorem pe_lam {X : Cx} {T : List (Addr × Str)} {c P : Addr} {params : Arguments} {body : Expr} {scope : Scope} {lpos : Pos} (TB : TabB X.base X.mg c P) (hcode : X.env.code = .ref c) (hmT : (P, X.env.qual ++ "<lambda>") ∈ T) (hu : ∀ p ∈ T, p.1 = P → p.2 = X.env.qual ++ "<lambda>")
    (L : LamS X.env.scope scope) (hdef : defaultsOf params X.env = ([], [])) : PE X (.Lambda params body scope lpos) (tLamV T (X.env.qual ++ "<lambda>") params body scope (cloFrom X.env.cells scope.names [])) :=
  ⟨fun pins s σ H Q I ⟨hT, h⟩ => lam_made I TB hcode hmT hu hT hdef (L.has I.ok) fun f c' H1 s' I1 eN T1 n1 hco => ⟨.ref f, _, I1, rfl, h f c' H1 eN T1 n1 hco⟩⟩
/-! #### the call of what was handed over, in the callee's own context Z, entered from X -/
section
variable {X : Cx} {pins : List (Addr × Obj)} {σ : L2.St} {H : Hp} {s : Shared} {gq : Str} {gs : Scope} {g f code : Addr} {gc : Value} {params : Arguments} {body : Expr} {scope : Scope} {k : Nat} {tb : TE} {E : XK}
abbrev inside (X : Cx) (s : Shared) (gq : Str) (gs : Scope) (g : Addr) (gc : Value) : Env := envOfC gq gs s.heap.objs.size g gc
/-- the body runs in a frame of its own, above the callee's -/
theorem lam_runs {H2 : Hp} {s2 : Shared} {Q : VK} (I : Inv X pins σ H s) (L : LamS X.env.scope scope) (near : Env0 X.prog X.w X.K X.mg X.base (X.A.deeper (inside X s gq gs g gc)) (inside X s gq gs g gc :: X.stack) s2 H2) (un : Un (frs X.stack) [] H H2 s.heap s2.heap)
    (limit : s2.heap.NoLimit) (made : ObjOk X.prog X.w H2 s2.heap f (LamO (X.env.qual ++ "<lambda>") params body scope (cloFrom X.env.cells scope.names []) f code)) (coded : ObjOk X.prog X.w H2 s2.heap code (CodeO code (X.env.qual ++ "<lambda>")))
    (bare : ∀ pm typ : Value, bindArgs (PySem.W.kla_fn "<lambda>" (X.env.qual ++ "<lambda>") params body scope (cloFrom X.env.cells scope.names []) pm (.ref code) typ) ⟨[], []⟩ = pure []) (room : Room (k + 1) (X.A.deeper (inside X s gq gs g gc)))
    (reads : ∀ (A : Around) (out : List Env) (s' : Shared) (H' : Hp), Room k (A.deeper (lamEnv X scope s'.heap.objs.size f code)) → PE (lamCx X A out s' H' E scope f code) body tb) (holds : tb σ H2 Q) :
    codeAny (model X.prog X.w) (X.A.deeper (inside X s gq gs g gc)) (.call (.ref f) ⟨[], []⟩) (CR (L2.CX X.prog X.w) (inside X s gq gs g gc :: X.stack) X.prog X.w H2 s2 Q E) s2 := by
  obtain ⟨⟨pm, typ, fn⟩, _⟩ := made
  obtain ⟨⟨oc, vs, nt, at_, fields, name⟩, _⟩ := coded
  apply PySem.W.kla_callFunE room.depth fn rfl L.co L.gen rfl ⟨code, oc, vs, nt, rfl, at_, fields, name⟩
  rw [bare]
  have no1 : ∀ y ∈ scope.names, y.2 ≠ .cell := fun y hy => (L.own y hy).2
  refine wpAny_pure (wpAny_newFunctionEnv no1 (fun y hy => nomatch hy) (fun h1 ns sub => ?_) L.kind)
  refine ⟨limit.fresh _ sub, ?_⟩
  have stays : ∀ b o, s2.heap.get? b = some o → h1.get? b = some o := by
    intro b o e
    exact sub.extBut b o (Nat.ne_of_lt (Heap.lt_size e)) (Heap.get?_push_of_some _ e)
  have J := lam_start2 (E := E) (f := f) (c' := code) (tk := s2.toks + ([] : List (Str × Value)).length) I L near room.hd un ns stays
  have run := (reads _ (inside X s gq gs g gc :: X.stack) s2 H2 (room.deeper _)).run [] _ _ H2 Q J holds
  exact PySem.W.kla_codeExpr (wpAny_mono run (fun v s3 ⟨y, H3, J3, rel, q⟩ => ⟨y, H3, J3.os, J3.bare, J3.base, J3.hok, rel, q⟩) fun _ _ z => z)
/-- a(), a being the callee's parameter in slot i -/
theorem pe_acts {CXg : CXT} {Eg : XK} {Ng : List Str} {i : Nat} {a : Str} {pn : List (Addr × Obj)} {xe : Value → Shared → Prop} {W : WX} {p1 p2 : Pos} (I : Inv X pins σ H s) (L : LamS X.env.scope scope)
    (bare : ∀ pm typ : Value, bindArgs (PySem.W.kla_fn "<lambda>" (X.env.qual ++ "<lambda>") params body scope (cloFrom X.env.cells scope.names []) pm (.ref code) typ) ⟨[], []⟩ = pure [])
    (lets : Takes ((cxOf CXg X.prog X.w X.K X.mg X.base Ng gq gs g gc X.A X.stack s H Eg).tr pn xe) W) (room : Room (k + 1) (X.A.deeper (inside X s gq gs g gc)))
    (reads : ∀ (A : Around) (out : List Env) (s' : Shared) (H' : Hp), Room k (A.deeper (lamEnv X scope s'.heap.objs.size f code)) → PE (lamCx X A out s' H' E scope f code) body tb)
    (name : PE ((cxOf CXg X.prog X.w X.K X.mg X.base Ng gq gs g gc X.A X.stack s H Eg).tr pn xe) (.Name a p1) (tVar i)) :
    PE ((cxOf CXg X.prog X.w X.K X.mg X.base Ng gq gs g gc X.A X.stack s H Eg).tr pn xe) (.Call (.Name a p1) [] [] p2)
      (fun σZ HZ Q => σZ[i]? = some (some (.ref f)) ∧ HZ f = some (LamO (X.env.qual ++ "<lambda>") params body scope (cloFrom X.env.cells scope.names []) f code) ∧ HZ code = some (CodeO code (X.env.qual ++ "<lambda>")) ∧ (∀ cls d H', E cls d H' → W cls d σZ H') ∧ tb σ HZ Q) := by
  constructor
  intro pz sz σZ HZ Q IZ ⟨slot, made, coded, more, holds⟩
  have first := name.run pz sz σZ HZ (fun v H1 => v = .ref f ∧ H1 = HZ) IZ ⟨.ref f, slot, rfl, rfl⟩
  refine wpAny_Call_Name_kw (thn first fun u s2 got => ?_)
  obtain ⟨v, H2, J, rel, rfl, rfl⟩ := got
  cases (show u = Value.ref f from rel)
  obtain ⟨⟨pm, typ, fn⟩, _⟩ := id (J.hok f _ made)
  apply PySem.W.callWith_F0 ⟨_, _, _, _, fn⟩
  have runs := lam_runs (Q := Q) I L J.env0 J.base J.nolimit (J.hok f _ made) (J.hok code _ coded) bare room reads holds
  refine wpAny_call (codeAny_mono runs fun r s3 end_ => ?_)
  match r, end_ with
  | .error e, z => exact lets e s3 (XE.of_call J (fun cls d H' q => more cls d H' q) z)
  | .ok (.ret u), z => exact J.after z
end
/-- what _law_error makes of the work's reading -/
def TErr (K : PySem.W.Frag) (CS : Addr) : (XK → Hp → VK → Prop) → Hp → VK → Prop := fun tl H Q =>
  tl (fun cls d H' => PySem.W.exmOne K cls (.ref CS) = some true ∧ ∀ a, H' a = none → Q (.ref a) (upd H' a (ErO cls d a))) H (fun _ H' => ∃ v, some (some V.non) = some (some v) ∧ Q v H')
def tErrC (K : PySem.W.Frag) (CS : Addr) (q : Str) (params : Arguments) (body : Expr) (scope : Scope) (cl : List (Str × Addr)) (ta : TA) (t : XK → TE) : TE := fun σ H Q => ta σ H fun vs H1 => ∃ f c', vs = [V.ref f] ∧ H1 f = some (LamO q params body scope cl f c') ∧ H1 c' = some (CodeO c' q) ∧
  TErr K CS (fun E H' Q' => t E σ H' Q') H1 Q
end Any
set_option Elab.async false
set_option linter.all false
set_option maxRecDepth 100000
set_option maxHeartbeats 4000000
/-! The def that calls what it got and hands back the error, called with a lambda. -/
namespace Any
open PySem PySem.Spec PySem.W PyProof.Rows L2 LamX
open He (ga ma)
theorem scLawError : FnScope ["work", "error", "caught"] ["work"] (defScope sLawError) := ⟨rfl, rfl, rfl, by decide +kernel, rfl, by decide +kernel, by decide +kernel⟩
section
variable {X : Cx} {ta : TA} {t : XK → TE} {e : Expr} {p pos : Pos} {params : Arguments} {body : Expr} {scope : Scope} {k : Nat} {CS : Addr}
theorem pe_errcall (D : At X.K X.mg "_law_error" sLawError) (gM : X.mg "MakerError" = some (.ref CS)) (hg : Gl X "_law_error") (arg : PA X [e] ta) (room : Room (k + 2) X.A) (L : LamS X.env.scope scope)
    (bare : ∀ (q : Str) (cl : List (Str × Addr)) (pm cv typ : Value), bindArgs (PySem.W.kla_fn "<lambda>" q params body scope cl pm cv typ) ⟨[], []⟩ = pure [])
    (reads : ∀ (E : XK) (f c' : Addr) (A : Around) (out : List Env) (s : Shared) (H : Hp), Room k (A.deeper (lamEnv X scope s.heap.objs.size f c')) → PE (lamCx X A out s H E scope f c') body (t E))
    (one : starEach [e] X.env = (false, eval e X.env) :: starEach [] X.env := by rfl) (plain : (backTo pos (starEach [] X.env)).any (·.1) = false := by rfl) :
    PE X (.Call (.Name "_law_error" p) [e] [] pos) (tErrC X.K CS (X.env.qual ++ "<lambda>") params body scope (cloFrom X.env.cells scope.names []) ta t) := by
  obtain ⟨fd, F⟩ := D.ex
  have kp := F.kp
  have bind := F.binds (ps := ["work"]) fun _ _ _ _ _ _ us hl => match us, hl with | [_], _ => rfl
  obtain ⟨oc, od, kV, doc, pm, an, cdv, ct, osl, rfl, lk, hcd⟩ := F.ex
  constructor
  intro pins s σ H Q I h
  refine wpAny_Call_Name_kw (ld_glob I hg D.g (PySem.W.callWith_K (h₀ := X.base) I.ok.mod.kin kp (thn (arg.run pos pins s σ H _ I h) fun us s1 got => ?_) one plain) (by decide))
  obtain ⟨vs, H1, J, rel, f, code, ev, made, coded, q⟩ := got
  subst ev
  cases rel with
  | cons r0 r1 =>
  cases r1
  obtain rfl : _ = Value.ref f := r0
  refine ⟨J.kIn, ?_⟩
  have runs : codeAny (model X.prog X.w) X.A (.call (.ref (ga X.K "_law_error")) ⟨[.ref f], []⟩) (CR CX0 X.stack X.prog X.w H1 s1 Q E0) s1 := by
    refine run_ofS (N := ["work", "error", "caught"]) (ps := ["work"]) (us := [.ref f]) (vs := [.ref f]) lk hcd scLawError room J.env0 (bind s1 [.ref f] J.kIn rfl) (.cons rfl .nil) rfl fun room' => ?_
    have names : Names (cxOf CX0 X.prog X.w X.K X.mg X.base ["work", "error", "caught"] "_law_error" (defScope sLawError) (ga X.K "_law_error") cdv X.A X.stack s1 H1 E0).nox "MakerError" (.ref CS) := ⟨rfl, by decide, .inl gM⟩
    have body1 : PSs (cxOf CX0 X.prog X.w X.K X.mg X.base ["work", "error", "caught"] "_law_error" (defScope sLawError) (ga X.K "_law_error") cdv X.A X.stack s1 H1 E0).nox (defBody sLawError) _ := pss_cons (ps_set (i := 1) scLawError.nd rfl (Or.inl rfl) pe_non)
      (pss_cons (ps_try_err (i := 2) (tb := fun W D σ' H' => ∃ Ech : XK, (∀ cls d H', Ech cls d H' → W cls d σ' H') ∧ σ'[0]? = some (some (.ref f)) ∧ H' f = some (LamO (X.env.qual ++ "<lambda>") params body scope (cloFrom X.env.cells scope.names []) f code) ∧ H' code = some (CodeO code (X.env.qual ++ "<lambda>")) ∧ t Ech σ H' fun _ H2 => D.nx σ' H2)
        rfl rfl rfl scLawError.nd rfl rfl names L2.takes0
        (fun W pn xe lets _ => ⟨fun pz sz σz Hz D I' ⟨Ech, more, h1, h2, h3, h4⟩ =>
          (pss_one (ps_expr (pe_acts (CXg := CX0) (Eg := E0) (Ng := ["work", "error", "caught"]) (E := Ech) J L (fun pm typ => bare _ _ pm _ typ) lets room' (fun A out s' H' => reads Ech f code A out s' H') (pv 0)))).run pz sz σz Hz D I' ⟨h1, h2, h3, more, h4⟩⟩)
        (fun a pn => pss_one (ps_set (i := 1) scLawError.nd rfl (Or.inl rfl) (pv 2))))
      (pss_one (ps_ret (pv 1))))
    refine ⟨_, body1.nox, ?_⟩
    exact ⟨_, fun cls d H' ⟨ex, all⟩ => ⟨true, ex, fun _ a na => ⟨.ref a, rfl, ⟨.ref a, rfl, all a na⟩⟩, fun z => nomatch z⟩, rfl, made, coded, q⟩
  refine wpAny_call (codeAny_mono runs fun r s2 end_ => ?_)
  match r, end_ with
  | .error _, z => exact z.elim
  | .ok (.ret u), z => exact J.after z
end
end Any
set_option Elab.async false
set_option linter.all false
set_option maxRecDepth 100000
set_option maxHeartbeats 4000000
/-! Forms: numbers, words, rows, heads, names, told of any data. -/
namespace Any
open PySem PySem.Spec PyProof.Rows L2
open He (ga ma)
def spNum (K : PySem.W.Frag) : Sp := fun vs H Q _ => ∃ v d, vs = [v] ∧ Dx K H v d ∧ Q (.bl (isNum d)) H
def spBtw (K : PySem.W.Frag) : Sp := fun vs H Q _ => ∃ v d lo hi, vs = [v, .int lo, .int hi] ∧ Dx K H v d ∧ Q (.bl (Exq.btw lo hi d)) H
def spWord (K : PySem.W.Frag) : Sp := fun vs H Q _ => ∃ v d p ws, vs = [v, .ref p] ∧ Dx K H v d ∧ SqT K H p (ws.map V.str) ∧ Q (.bl (Exq.oneOf ws d)) H
def spRow (K : PySem.W.Frag) : Sp := fun vs H Q _ => ∃ v d n, vs = [v, .int n] ∧ Dx K H v d ∧ Q (.bl (rowB n d)) H
def spHeaded (K : PySem.W.Frag) : Sp := fun vs H Q _ => ∃ v d, vs = [v] ∧ Dx K H v d ∧ Q (.bl (hdB d)) H
/-- the written names -/
structure TW (K : PySem.W.Frag) (mg : Str → Option Value) : Prop where
  let_ : ∃ t, mg "LETTERS" = some (.str letS t)
  kept : mg "KEPT" = some (.ref (ga K "KEPT"))
  keptT : ∀ H, SqT K H (ga K "KEPT") keptV
def spNm (K : PySem.W.Frag) : Sp := fun vs H Q _ => ∃ v d, vs = [v] ∧ Dx K H v d ∧ (∀ x, d = .str x → x.length ≤ 100000) ∧ ∀ H', Same H H' → Q (.bl (nmD d)) H'
section
variable {P : Program} {w : World} {K : PySem.W.Frag} {mg : Str → Option Value} {base : Heap}
theorem scIsNumber : FnScope ["thing"] ["thing"] (defScope sIsNumber) := ⟨rfl, rfl, rfl, by decide +kernel, rfl, by decide +kernel, by decide +kernel⟩
theorem hIsNumber (D : DS K mg) (T : TF mg) : Has P w K mg base CX0 "is_number" sIsNumber ["thing"] 1 (spNum K) := by
  refine Has.mk0 D.aIsNumber scIsNumber (fun _ _ _ _ _ _ us hl => match us, hl with | [_], _ => rfl) (fun vs H Q E h => ?_) (fun cdv A outer s H vs Q E hr h => ?_)
  · obtain ⟨v, d, rfl, _⟩ := h
    rfl
  · obtain ⟨v, d, rfl, hd, k⟩ := h
    refine ⟨_, (pss_one (ps_ret (pe_and (pe_callB call_isi (by rfl) T.isinstance (by decide +kernel) (pa_cons (pv 0) (pa_cons (pe_bltn (v := .ty "int") (by rfl) T.int (by decide +kernel) rfl) pa_nil))) (pe_one (pe_not (pe_callB call_isi (by rfl) T.isinstance (by decide +kernel) (pa_cons (pv 0) (pa_cons (pe_bltn (v := .ty "bool") (by rfl) T.bool (by decide +kernel) rfl) pa_nil)))))))), ?_⟩
    refine ⟨_, rfl, _, _, _, _, _, rfl, .ty "int", hd.ty, kit_ty (kit_int d), _, rfl, ?_⟩
    refine ite2 (fun c => ?_) (fun c => ?_)
    · refine ⟨_, rfl, _, _, _, _, _, rfl, .ty "bool", hd.ty, kit_ty (kit_bool d), _, rfl, ?_⟩
      cases d with
      | int i => exact k
      | bool b => exact k
      | _ => exact absurd c (by simp [isTy, isTyS, tyN])
    · cases d with
      | int i => exact absurd rfl c
      | _ => exact k
theorem scIsBetween : FnScope ["thing", "low", "high"] ["thing", "low", "high"] (defScope sIsBetween) := ⟨rfl, rfl, rfl, by decide +kernel, rfl, by decide +kernel, by decide +kernel⟩
theorem hIsBetween (D : DS K mg) (T : TF mg) : Has P w K mg base CX0 "is_between" sIsBetween ["thing", "low", "high"] 2 (spBtw K) := by
  have hIsNumber : Has P w K mg base CX0 _ _ _ 1 _ := hIsNumber D T
  refine Has.mk0 D.aIsBetween scIsBetween (fun _ _ _ _ _ _ us hl => match us, hl with | [_, _, _], _ => rfl) (fun vs H Q E h => ?_) (fun cdv A outer s H vs Q E hr h => ?_)
  · obtain ⟨v, d, lo, hi, rfl, _⟩ := h
    rfl
  · obtain ⟨v, d, lo, hi, rfl, hd, k⟩ := h
    refine ⟨_, (pss_one (ps_ret (pe_and (pe_fn hIsNumber (hr.mono (by decide)) (by rfl) (pa_cons (pv 0) pa_nil)) (pe_one (pe_chain op_le op_le (pv 1) (pv 0) (pv 2)))))), ?_⟩
    refine ⟨_, rfl, v, d, rfl, hd, _, rfl, ?_⟩
    refine ite2 (fun c => ?_) (fun c => ?_)
    · cases d with
      | int i =>
        cases hd
        refine ⟨_, rfl, _, rfl, _, _, rfl, rfl, _, rfl, ?_⟩
        refine ite2 (fun c1 => ?_) (fun c1 => ?_)
        · refine ⟨_, rfl, _, _, rfl, rfl, ?_⟩
          have : Exq.btw lo hi (.int i) = decide (i ≤ hi) := by
            show (decide (lo ≤ i) && decide (i ≤ hi)) = _
            rw [c1, Bool.true_and]
          rw [this] at k
          exact k
        · have : Exq.btw lo hi (.int i) = false := by
            show (decide (lo ≤ i) && decide (i ≤ hi)) = _
            rw [Bool.eq_false_iff.mpr c1, Bool.false_and]
          rw [this] at k
          exact k
      | _ => exact absurd c Bool.false_ne_true
    · cases d with
      | int i => exact absurd rfl c
      | _ => exact k
theorem scIsWord : FnScope ["thing", "words"] ["thing", "words"] (defScope sIsWord) := ⟨rfl, rfl, rfl, by decide +kernel, rfl, by decide +kernel, by decide +kernel⟩
theorem hIsWord (D : DS K mg) (T : TF mg) : Has P w K mg base CX0 "is_word" sIsWord ["thing", "words"] 1 (spWord K) := by
  refine Has.mk0 D.aIsWord scIsWord (fun _ _ _ _ _ _ us hl => match us, hl with | [_, _], _ => rfl) (fun vs H Q E h => ?_) (fun cdv A outer s H vs Q E hr h => ?_)
  · obtain ⟨v, d, p, ws, rfl, _⟩ := h
    rfl
  · obtain ⟨v, d, p, ws, rfl, hd, hw, k⟩ := h
    refine ⟨_, (pss_one (ps_ret (pe_and (pe_callB call_isi (by rfl) T.isinstance (by decide +kernel) (pa_cons (pv 0) (pa_cons (pe_bltn (v := .ty "str") (by rfl) T.str (by decide +kernel) rfl) pa_nil))) (pe_one (pe_cmpR op_in_seq (pv 0) (pv 1) (by rfl)))))), ?_⟩
    refine ⟨_, rfl, _, _, _, _, _, rfl, .ty "str", hd.ty, kit_ty (kit_str d), _, rfl, ?_⟩
    refine ite2 (fun c => ?_) (fun c => ?_)
    · cases d with
      | str x =>
        cases hd
        refine ⟨_, rfl, _, rfl, p, _, rfl, .inr hw, rfl, flat_strs ws, ?_⟩
        rw [if_neg Bool.false_ne_true, inV_strs]
        exact k
      | _ => exact absurd c (by simp [isTy, isTyS, tyN])
    · cases d with
      | str x => exact absurd rfl c
      | _ => exact k
theorem scIsRow : FnScope ["thing", "count"] ["thing", "count"] (defScope sIsRow) := ⟨rfl, rfl, rfl, by decide +kernel, rfl, by decide +kernel, by decide +kernel⟩
theorem hIsRow (D : DS K mg) (T : TF mg) : Has P w K mg base CX0 "is_row" sIsRow ["thing", "count"] 1 (spRow K) := by
  refine Has.mk0 D.aIsRow scIsRow (fun _ _ _ _ _ _ us hl => match us, hl with | [_, _], _ => rfl) (fun vs H Q E h => ?_) (fun cdv A outer s H vs Q E hr h => ?_)
  · obtain ⟨v, d, n, rfl, _⟩ := h
    rfl
  · obtain ⟨v, d, n, rfl, hd, k⟩ := h
    refine ⟨_, (pss_one (ps_ret (pe_and (pe_callB call_isi (by rfl) T.isinstance (by decide +kernel) (pa_cons (pv 0) (pa_cons (pe_bltn (v := .ty "tuple") (by rfl) T.tuple (by decide +kernel) rfl) pa_nil))) (pe_one (pe_cmpR op_eq (pe_callB call_len_seq (by rfl) T.len PySem.boot_len (pa_cons (pv 0) pa_nil)) (pv 1) (nomark _)))))), ?_⟩
    refine ⟨_, rfl, _, _, _, _, _, rfl, .ty "tuple", hd.ty, kit_ty (kit_tuple d), _, rfl, ?_⟩
    refine ite2 (fun c => ?_) (fun c => ?_)
    · cases d with
      | tuple ds =>
        cases hd with
        | @tup a xs _ e r =>
          refine ⟨_, rfl, _, _, rfl, .inr e, _, rfl, rfl, ?_⟩
          have el := DxAll.len r
          have : decide (V.int (xs.length : Nat) = V.int n) = rowB n (.tuple ds) := by
            rw [el]
            show decide (V.int (ds.length : Nat) = V.int n) = decide ((ds.length : Int) = n)
            simp
          rw [this]
          exact k
      | _ => exact absurd c (by simp [isTy, isTyS, tyN])
    · cases d with
      | tuple ds => exact absurd rfl c
      | _ => exact k
theorem scIsHeaded : FnScope ["thing"] ["thing"] (defScope sIsHeaded) := ⟨rfl, rfl, rfl, by decide +kernel, rfl, by decide +kernel, by decide +kernel⟩
theorem hIsHeaded (D : DS K mg) (T : TF mg) : Has P w K mg base CX0 "is_headed" sIsHeaded ["thing"] 1 (spHeaded K) := by
  refine Has.mk0 D.aIsHeaded scIsHeaded (fun _ _ _ _ _ _ us hl => match us, hl with | [_], _ => rfl) (fun vs H Q E h => ?_) (fun cdv A outer s H vs Q E hr h => ?_)
  · obtain ⟨v, d, rfl, _⟩ := h
    rfl
  · obtain ⟨v, d, rfl, hd, k⟩ := h
    refine ⟨_, (pss_one (ps_ret (pe_and (pe_callB call_isi (by rfl) T.isinstance (by decide +kernel) (pa_cons (pv 0) (pa_cons (pe_bltn (v := .ty "tuple") (by rfl) T.tuple (by decide +kernel) rfl) pa_nil))) (pe_and (pe_cmpR op_gt (pe_callB call_len_seq (by rfl) T.len PySem.boot_len (pa_cons (pv 0) pa_nil)) pe_int (nomark _)) (pe_one (pe_callB call_isi (by rfl) T.isinstance (by decide +kernel) (pa_cons (pe_ix ix_tup (pv 0) pe_int (fun _ _ => rfl)) (pa_cons (pe_bltn (v := .ty "str") (by rfl) T.str (by decide +kernel) rfl) pa_nil)))))))), ?_⟩
    refine ⟨_, rfl, _, _, _, _, _, rfl, .ty "tuple", hd.ty, kit_ty (kit_tuple d), _, rfl, ?_⟩
    refine ite2 (fun c => ?_) (fun c => ?_)
    · cases d with
      | tuple ds =>
        cases hd with
        | @tup a xs _ e r =>
          refine ⟨_, rfl, _, _, rfl, .inr e, _, _, rfl, rfl, _, rfl, ?_⟩
          cases r with
          | nil => exact k
          | @cons v1 vs1 d1 ds1 h1 r1 =>
            refine ite2 (fun c2 => ?_) (fun c2 => ?_)
            · refine ⟨_, rfl, a, _, _, v1, rfl, rfl, e, atI_nat (xs := v1 :: vs1) (j := 0) (v := v1) rfl, ?_⟩
              refine ⟨_, _, _, _, _, rfl, .ty "str", h1.ty, kit_ty (kit_str d1), ?_⟩
              cases d1 <;> exact k
            · exact absurd (decide_eq_true (show (0 : Int) < ((v1 :: vs1).length : Nat) by simp only [List.length_cons]; omega)) c2
      | _ => exact absurd c (by simp [isTy, isTyS, tyN])
    · cases d with
      | tuple ds => exact absurd rfl c
      | _ => exact k
theorem scIsName : FnScope ["thing", "letter"] ["thing"] (defScope sIsName) := ⟨rfl, rfl, rfl, by decide +kernel, rfl, by decide +kernel, by decide +kernel⟩
theorem hIsName (D : DS K mg) (T : TF mg) (B : TW K mg) : Has P w K mg base CX0 "is_name" sIsName ["thing"] 1 (spNm K) := by
  refine Has.mk0 D.aIsName scIsName (fun _ _ _ _ _ _ us hl => match us, hl with | [_], _ => rfl) (fun vs H Q E h => ?_) (fun cdv A outer s H vs Q E hr h => ?_)
  · obtain ⟨v, d, rfl, _⟩ := h
    rfl
  · obtain ⟨v, d, rfl, hd, hl, k0⟩ := h
    have h : (∃ x : Str, v = .str x ∧ x.length ≤ 100000 ∧ True ∧ ∀ H', Same H H' → Q (.bl (isNm x)) H') ∨ ((∃ t, TyX K H v (.type t) ∧ kitB t "str" = some false) ∧ ∀ H', Same H H' → Q (.bl false) H') := by
      cases d with
      | str x =>
        cases hd
        exact .inl ⟨x, rfl, hl x rfl, True.intro, k0⟩
      | _ => exact .inr ⟨⟨_, hd.ty, by rw [kit_str]; rfl⟩, k0⟩
    obtain ⟨t, hL⟩ := B.let_
    refine ⟨_, (pss_cons (ps_if (PW.pt (pw_or (pt_not (pt_val (pe_callB call_isi (by rfl) T.isinstance (by decide +kernel) (pa_cons (pv 0) (pa_cons (pe_bltn (v := .ty "str") (by rfl) T.str (by decide +kernel) rfl) pa_nil))))) (pw_or1 (pt_not (pt_chain op_le op_le pe_int (pe_callB call_len_str (by rfl) T.len PySem.boot_len (pa_cons (pv 0) pa_nil)) pe_int)))))
        (pss_one (ps_ret pe_bl))
        pss_nil)
      (pss_one (ps_ret (pe_and (pe_callB (call_allL rfl) (by rfl) T.all (by decide +kernel) (pa_cons (pe_lc (own := [("letter", 1)]) (g := (gName 1)) rfl scIsName.nd (pi_str (pv 0)) (blkOk_by (own := [("letter", 1)]) (N := ["thing", "letter"]) (sc := defScope sIsName) (by decide +kernel)) (fun _ _ _ _ _ => (pg_name (i := 1) scIsName.nd rfl (Or.inl rfl))) (fun _ _ _ _ _ => pts_nil) (fun _ _ _ _ _ => (pe_cmpR op_in_sign (pv 1) (pe_glob (v := .str letS) (by rfl) hL ⟨_, rfl⟩) rfl))) pa_nil)) (pe_one (pe_cmpR op_notIn_seq (pv 0) (pe_glob (v := .ref (ga K "KEPT")) (by rfl) B.kept rfl) (by rfl))))))), ?_⟩
    rcases h with ⟨x, rfl, hx, _, k⟩ | ⟨⟨t, ty, kt⟩, k⟩
    · refine ⟨_, rfl, _, _, _, _, true, rfl, .ty "str", .base (.str x), kit_ty (by decide +kernel), true, rfl, ?_⟩
      refine iteF ?_
      have hz : x.length ≤ sizeLine := line_le (by omega)
      refine ⟨_, rfl, _, rfl, hz, _, _, rfl, rfl, _, rfl, ?_⟩
      have stop : lenOk x = false → Q (.bl false) H := fun e => by
        have := k H rsame
        unfold isNm at this
        rw [e, Bool.false_and] at this
        exact this
      refine ite2 (fun c1 => ?_) (fun c1 => ?_)
      · refine ⟨_, _, rfl, rfl, _, rfl, ?_⟩
        refine ite2 (fun c2 => ?_) (fun c2 => ?_)
        · have c2' : ¬ (x.length : Int) ≤ 8 := by simpa using c2
          exact stop (by unfold lenOk; rw [decide_eq_false c2', Bool.and_false])
        · have c2' : (x.length : Int) ≤ 8 := by simpa using c2
          have c1' : (1 : Int) ≤ (x.length : Int) := of_decide_eq_true c1
          have lk : lenOk x = true := by unfold lenOk; rw [decide_eq_true c1', decide_eq_true c2']; rfl
          refine ⟨_, rfl, x, rfl, fun D hD => lc_it walk_str (fun i H1 => H1 = upd H D (.lst ((x.cps.toList.take i).map fun c => V.bl (inLet c)))) rfl (fun _ _ _ _ => True.intro) ?_ ?_⟩
          · rintro i v H1 H2 hi rfl ⟨rfl, c, hc, rfl⟩
            refine ⟨rfl, yes_if ⟨_, rfl, c, _, rfl, rfl, _, upd_same, ?_, ?_⟩⟩
            · rw [List.length_map, List.length_take]
              have hi' : i < x.length := hi
              exact small1000 (Nat.le_trans (Nat.min_le_left _ _) (by omega))
            · rw [upd_upd, take_map (f := fun c => V.bl (inLet c)) hc]
              rfl
          · rintro H1 rfl
            have e1 : x.cps.toList.take x.cps.size = x.cps.toList := List.take_of_length_le (by simp)
            rw [e1]
            refine ⟨D, x.cps.toList.map inLet, rfl, ?_, _, rfl, ?_⟩
            · rw [List.map_map]
              exact SqL.of upd_same
            · have e2 : (x.cps.toList.map inLet).all id = x.cps.toList.all inLet := by
                rw [List.all_map]
                rfl
              rw [e2]
              refine ite2 (fun c3 => ?_) (fun c3 => ?_)
              · refine ⟨_, rfl, _, _, rfl, .inr (B.keptT _), rfl, kept_flat, ?_⟩
                have := k _ (snew hD (o := .lst (x.cps.toList.map fun c => V.bl (inLet c))))
                unfold isNm at this
                rw [lk, c3, Bool.true_and, Bool.true_and] at this
                exact this
              · have := k _ (snew hD (o := .lst (x.cps.toList.map fun c => V.bl (inLet c))))
                unfold isNm at this
                rw [Bool.eq_false_iff.mpr c3, Bool.false_and, Bool.and_false] at this
                exact this
      · have c1' : ¬ (1 : Int) ≤ (x.length : Int) := by simpa using c1
        exact ⟨_, rfl, stop (by unfold lenOk; rw [decide_eq_false c1']; rfl)⟩
    · refine ⟨_, rfl, _, _, _, _, false, rfl, .ty "str", ty, kit_ty kt, false, rfl, ?_⟩
      exact k _ rsame
end
end Any
set_option Elab.async false
set_option linter.all false
set_option maxRecDepth 100000
set_option maxHeartbeats 4000000
/-! A written dict with text keys: its rows, d.get(k, x). -/
namespace Any
open PySem PySem.Spec PyProof.Rows L2
open He (ga ma)
/-- at d: a written dict of these keys, its values as told -/
structure Tab (K : PySem.W.Frag) (w : World) (d : Addr) (keys : List Str) (says : Str → V → Prop) : Prop where
  kd : ∃ es n, KDict K w d es n
  hit : ∀ k ∈ keys, ∃ u v, PySem.W.nsIn K d k = some (some u) ∧ RelV v u ∧ says k v
  miss : ∀ k, k ∉ keys → PySem.W.nsIn K d k = some none
section
variable {X : Cx} {d : Addr} {es : Array DictEntry} {n : Nat} {o e f : Expr} {td ty tx : TE} {apos cpos : Pos} {keys : List Str} {says : Str → V → Prop}
def tKGet (K : PySem.W.Frag) (d : Addr) (td ty tx : TE) : TE := fun σ H Q => td σ H fun x H1 => x = .ref d ∧ ty σ H1 fun y H2 => tx σ H2 fun z H3 => ∃ k, y = .str k ∧ ∃ r : Option Value, PySem.W.nsIn K d k = some r ∧ (∀ u, r = some u → ∃ v, RelV v u ∧ Q v H3) ∧ (r = none → Q z H3)
theorem pe_kget (D : KDict X.K X.w d es n) (ho : PE X o td) (he : PE X e ty) (hf : PE X f tx) (m : M2 X o "get" apos e f cpos) : PE X (.Call (.Attribute o "get" apos) [e, f] [] cpos) (tKGet X.K d td ty tx) := by
  constructor
  intro pins s σ H Q I h
  apply wpAny_Call_method m.base m.few m.line PySem.F.plainAttrs_dict PySem.F.slot_dict_get PySem.F.type_dict_get
  refine thn (ho.run pins s σ H _ I h) fun u s1 got => ?_
  obtain ⟨x, H1, I1, rx, rfl, q1⟩ := got
  obtain rfl : u = Value.ref d := rx
  refine ⟨kd_type D I1, fun a ea => ⟨_, by cases ea; exact I1.kIn _ _ D.at_, rfl⟩, ?_⟩
  rw [m.trees]
  refine Calls.callWith_builtin rfl (Calls.evalArgs_plain (Calls.spliced_cons (thn (he.run pins s1 σ H1 _ I1 q1) fun iv s2 got2 => ?_)))
  obtain ⟨y, H2, I2, ry, q2⟩ := got2
  refine Calls.spliced_cons (thn (hf.run pins s2 σ H2 _ I2 q2) fun fv s3 got3 => Calls.spliced_nil ?_)
  obtain ⟨z, H3, I3, rz, k, rfl, r, en, there, not⟩ := got3
  obtain ⟨tok, rfl⟩ := ry
  have map := PySem.W.mapOf_K (prog := X.prog) (w := X.w) I3.kIn D.at_ D.lit
  refine call_meetsIn PySem.F.slot_dict_get map.typeIs PySem.F.entry_dict_get (PySem.F.args_dict_get_3 _ _ _) (meets_dict_get_default (strKind X.prog X.w) d (strKind_is X.prog X.w k tok) D.low fv) ⟨_, map, ?_⟩
  show EP _ _ _ _ _ _
  rw [PySem.W.find_K D.at_ en]
  cases r with
  | none => exact ⟨z, H3, I3.tok _, rz, not rfl⟩
  | some u =>
    obtain ⟨v, rv, q⟩ := there u rfl
    exact ⟨v, H3, I3.tok _, rv, q⟩
end
end Any
set_option Elab.async false
set_option linter.all false
set_option maxRecDepth 100000
set_option maxHeartbeats 4000000
/-! Nodes and their children. -/
namespace Any
open PySem PySem.Spec PyProof.Rows L2
open He (ga ma)
/-- where a node's parts stand in its tuple -/
def kidsAt (h : Str) : List Nat :=
  if h ∈ Exq.opsN then [1, 2]
  else if h = "each" then [4]
  else if h = "set" then [2]
  else if h = "show" then [1]
  else if h = "if" then [1, 2, 3]
  else if h = "then" then [1, 2]
  else if h = "while" then [1, 2]
  else []
def chiKeys : List Str := ["set", "show", "if", "then", "while", "each", "plus", "minus", "times", "same", "less", "over"]
def lenKeys : List Str := ["number", "set", "show", "ask", "if", "then", "while", "call"]
def lenAt (h : Str) : Int :=
  if h = "number" then 2 else if h = "set" then 3 else if h = "show" then 2 else if h = "ask" then 1 else if h = "if" then 4 else if h = "then" then 3 else if h = "while" then 3 else 2
def chiSays (K : PySem.W.Frag) (k : Str) (v : V) : Prop := ∃ a, v = .ref a ∧ ∀ H, SqT K H a ((kidsAt k).map fun (i : Nat) => V.int i)
def lenSays (k : Str) (v : V) : Prop := v = .int (lenAt k)
/-- the written tables -/
structure TT (K : PySem.W.Frag) (w : World) (mg : Str → Option Value) : Prop where
  ops : mg "OPERATIONS" = some (.ref (ga K "OPERATIONS"))
  opsT : ∀ H, SqT K H (ga K "OPERATIONS") (Exq.opsN.map V.str)
  chi : mg "CHILDREN" = some (.ref (ga K "CHILDREN"))
  chiT : Tab K w (ga K "CHILDREN") chiKeys (chiSays K)
  len : mg "LENGTHS" = some (.ref (ga K "LENGTHS"))
  lenT : Tab K w (ga K "LENGTHS") lenKeys lenSays
theorem kids_none {h : Str} (n : h ∉ chiKeys) : kidsAt h = [] := by
  unfold chiKeys at n
  simp only [List.mem_cons, List.not_mem_nil, or_false, not_or] at n
  obtain ⟨n1, n2, n3, n4, n5, n6, n7, n8, n9, n10, n11, n12⟩ := n
  have no : h ∉ Exq.opsN := by
    unfold Exq.opsN
    simp only [List.mem_cons, List.not_mem_nil, or_false, not_or]
    exact ⟨n7, n8, n9, n10, n11, n12⟩
  unfold kidsAt
  rw [if_neg no, if_neg n6, if_neg n1, if_neg n2, if_neg n3, if_neg n4, if_neg n5]
theorem kids_row {K : PySem.W.Frag} {w : World} {mg : Str → Option Value} (W : TT K w mg) (h : Str) :
    (∃ u b, PySem.W.nsIn K (ga K "CHILDREN") h = some (some u) ∧ RelV (.ref b) u ∧ ∀ H, SqT K H b ((kidsAt h).map fun (i : Nat) => V.int i)) ∨ (PySem.W.nsIn K (ga K "CHILDREN") h = some none ∧ kidsAt h = []) := by
  by_cases m : h ∈ chiKeys
  · obtain ⟨u, v, e1, e2, b, rfl, e3⟩ := W.chiT.hit h m
    exact .inl ⟨u, b, e1, e2, e3⟩
  · exact .inr ⟨W.chiT.miss h m, kids_none m⟩
def spKids (K : PySem.W.Frag) : Sp := fun vs H Q _ => ∃ v h r, vs = [v] ∧ Dx K H v (.tuple (.str h :: r)) ∧ ∀ a H', Same H H' → SqT K H' a ((kidsAt h).map fun (i : Nat) => V.int i) → Q (.ref a) H'
section
variable {P : Program} {w : World} {K : PySem.W.Frag} {mg : Str → Option Value} {base : Heap}
theorem scChildrenOf : FnScope ["node"] ["node"] (defScope sChildrenOf) := ⟨rfl, rfl, rfl, by decide +kernel, rfl, by decide +kernel, by decide +kernel⟩
theorem hChildrenOf (D : DS K mg) (T : TF mg) (W : TT K w mg) : Has P w K mg base CX0 "children_of" sChildrenOf ["node"] 1 (spKids K) := by
  obtain ⟨es, n, kd⟩ := W.chiT.kd
  refine Has.mk0 D.aChildrenOf scChildrenOf (fun _ _ _ _ _ _ us hl => match us, hl with | [_], _ => rfl) (fun vs H Q E h => ?_) (fun cdv A outer s H vs Q E hr h => ?_)
  · obtain ⟨v, h, r, rfl, _⟩ := h
    rfl
  · obtain ⟨v, h, r, rfl, hd, k⟩ := h
    refine ⟨_, pss_one (ps_ret (pe_kget kd (pe_glob (v := .ref (ga K "CHILDREN")) (by rfl) W.chi rfl) (pe_ix ix_tup (pv 0) pe_int (fun _ _ => rfl)) (pe_tup pa_nil) ⟨rfl, rfl, rfl, rfl⟩)), ?_⟩
    cases hd with
    | @tup a xs _ e r0 =>
      cases r0 with
      | @cons v1 vs1 _ _ h1 r1 =>
        cases h1
        refine ⟨rfl, _, rfl, a, _, _, .str h, rfl, rfl, e, atI_nat (j := 0) rfl, ?_⟩
        refine ⟨by show 0 ≤ sizeLine; exact Nat.zero_le _, fun t ht => ⟨h, rfl, ?_⟩⟩
        by_cases m : h ∈ chiKeys
        · obtain ⟨u, v, e1, e2, b, rfl, e3⟩ := W.chiT.hit h m
          refine ⟨some u, e1, fun u' eu => ?_, fun z => (nomatch z)⟩
          cases eu
          exact ⟨.ref b, e2, k b _ (snew ht) (e3 _)⟩
        · refine ⟨none, W.chiT.miss h m, fun u' eu => (nomatch eu), fun _ => ?_⟩
          refine k t _ (snew ht) ?_
          rw [kids_none m]
          exact SqT.of upd_same
end
end Any
set_option Elab.async false
set_option linter.all false
set_option maxRecDepth 100000
set_option maxHeartbeats 4000000
/-! is_each, is_node. -/
namespace Any
open PySem PySem.Spec PyProof.Rows L2
open He (ga ma)
theorem inV_int2 (n a b : Int) : inV (.int n) [.int a, .int b] = (decide (a = n) || decide (b = n)) := by
  simp [inV, eqV]
  rfl
theorem each_len {nm : PyData → Bool} {r : List PyData} (h : ¬ (r.length = 4 ∨ r.length = 5)) : Exq.eachOk nm r = false := by
  unfold Exq.eachOk
  split
  · exact absurd (.inl rfl) h
  · exact absurd (.inr rfl) h
  · rfl
theorem wt_str {d : PyData} {n : Nat} (h : wt d ≤ n) : ∀ x, d = .str x → x.length ≤ n := by
  rintro x rfl
  exact str_le h
theorem wtA_at {ds : List PyData} {i : Nat} {d : PyData} (h : ds[i]? = some d) : wt d ≤ wtA ds := wtA_mem (List.mem_of_getElem? h)
/-- a tuple of data as it stands, and as it stays -/
structure TupD (K : PySem.W.Frag) (H : Hp) (a : Addr) (xs : List V) (ds : List PyData) : Prop where
  at_ : SqT K H a xs
  all : DxAll K H xs ds
theorem TupD.same {K : PySem.W.Frag} {H H' : Hp} {a : Addr} {xs : List V} {ds : List PyData} (t : TupD K H a xs ds) (s : Same H H') : TupD K H' a xs ds := ⟨Dx.sameT s t.at_, dxSameA s ds xs t.all⟩
theorem TupD.dx {K : PySem.W.Frag} {H : Hp} {a : Addr} {xs : List V} {ds : List PyData} (t : TupD K H a xs ds) : Dx K H (.ref a) (.tuple ds) := .tup t.at_ t.all
theorem Dx.tupD {K : PySem.W.Frag} {H : Hp} {v : V} {ds : List PyData} (h : Dx K H v (.tuple ds)) : ∃ a xs, v = .ref a ∧ TupD K H a xs ds := by
  cases h with
  | @tup a xs _ e r => exact ⟨a, xs, rfl, e, r⟩
theorem TupD.len {K : PySem.W.Frag} {H : Hp} {a : Addr} {xs : List V} {ds : List PyData} (t : TupD K H a xs ds) : xs.length = ds.length := DxAll.len t.all
/-- thing[i] -/
theorem TupD.item {K : PySem.W.Frag} {H : Hp} {a : Addr} {xs : List V} {ds : List PyData} (t : TupD K H a xs ds) {i : Nat} {d : PyData} (h : ds[i]? = some d) {Q : VK} (q : ∀ v, Dx K H v d → Q v H) : rIxT K (.ref a) (.int i) H Q := by
  obtain ⟨v, e, hv⟩ := DxAll.at t.all h
  exact ⟨a, xs, i, v, rfl, rfl, t.at_, atI_nat e, q v hv⟩
/-- len(thing) -/
theorem TupD.size {K : PySem.W.Frag} {H : Hp} {a : Addr} {xs : List V} {ds : List PyData} (t : TupD K H a xs ds) {Q : VK} (q : Q (.int (ds.length : Nat)) H) : ∃ p ys, [V.ref a] = [V.ref p] ∧ (SqL K H p ys ∨ SqT K H p ys) ∧ Q (.int ys.length) H :=
  ⟨a, xs, rfl, .inr t.at_, by rw [t.len]; exact q⟩
theorem len1 {α : Type} {r : List α} (h : r.length = 1) : ∃ a, r = [a] := List.length_eq_one_iff.mp h
theorem len2 {α : Type} {r : List α} (h : r.length = 2) : ∃ a b, r = [a, b] := by
  match r, h with
  | [a, b], _ => exact ⟨a, b, rfl⟩
theorem len3 {α : Type} {r : List α} (h : r.length = 3) : ∃ a b c, r = [a, b, c] := by
  match r, h with
  | [a, b, c], _ => exact ⟨a, b, c, rfl⟩
theorem len4 {α : Type} {r : List α} (h : r.length = 4) : ∃ a b c d, r = [a, b, c, d] := by
  match r, h with
  | [a, b, c, d], _ => exact ⟨a, b, c, d, rfl⟩
theorem len5 {α : Type} {r : List α} (h : r.length = 5) : ∃ a b c d e, r = [a, b, c, d, e] := by
  match r, h with
  | [a, b, c, d, e], _ => exact ⟨a, b, c, d, e, rfl⟩
theorem TupD.get {K : PySem.W.Frag} {H : Hp} {a : Addr} {xs : List V} {ds : List PyData} (t : TupD K H a xs ds) (i : Nat) {d : PyData} (h : ds[i]? = some d) : ∃ v, atI xs (i : Int) = some v ∧ Dx K H v d := by
  obtain ⟨v, e, hv⟩ := DxAll.at t.all h
  exact ⟨v, atI_nat e, hv⟩
def spEach (K : PySem.W.Frag) : Sp := fun vs H Q _ => ∃ v d r, vs = [v] ∧ Dx K H v (.tuple (d :: r)) ∧ wtA r ≤ 100000 ∧ ∀ H', Same H H' → Q (.bl (Exq.eachOk nmD r)) H'
section
variable {P : Program} {w : World} {K : PySem.W.Frag} {mg : Str → Option Value} {base : Heap}
theorem scIsEach : FnScope ["thing"] ["thing"] (defScope sIsEach) := ⟨rfl, rfl, rfl, by decide +kernel, rfl, by decide +kernel, by decide +kernel⟩
theorem hIsEach (D : DS K mg) (T : TF mg) (B : TW K mg) : Has P w K mg base CX0 "is_each" sIsEach ["thing"] 3 (spEach K) := by
  have hIsName : Has P w K mg base CX0 _ _ _ 1 _ := hIsName D T B
  have hIsWord : Has P w K mg base CX0 _ _ _ 1 _ := hIsWord D T
  have hIsBetween : Has P w K mg base CX0 _ _ _ 2 _ := hIsBetween D T
  refine Has.mk0 D.aIsEach scIsEach (fun _ _ _ _ _ _ us hl => match us, hl with | [_], _ => rfl) (fun vs H Q E h => ?_) (fun cdv A outer s H vs Q E hr h => ?_)
  · obtain ⟨v, d, r, rfl, _⟩ := h
    rfl
  · obtain ⟨v, d, r, rfl, hd, hw, k⟩ := h
    refine ⟨_, (pss_cons (ps_if (PW.pt (pw_or (pt_cmpR op_notIn_seq (pe_callB call_len_seq (by rfl) T.len PySem.boot_len (pa_cons (pv 0) pa_nil)) (pe_tup (pa_cons pe_int (pa_cons pe_int pa_nil))) (by rfl)) (pw_or1 (pt_not (pt_val (pe_fn hIsName (hr.mono (by decide)) (by rfl) (pa_cons (pe_ix ix_tup (pv 0) pe_int (fun _ _ => rfl)) pa_nil)))))))
        (pss_one (ps_ret pe_bl))
        pss_nil)
      (pss_cons (ps_if (PW.pt (pw_and (pt_cmpR op_eq (pe_callB call_len_seq (by rfl) T.len PySem.boot_len (pa_cons (pv 0) pa_nil)) pe_int (nomark _)) (pw_and1 (pt_not (pt_val (pe_fn hIsWord (hr.mono (by decide)) (by rfl) (pa_cons (pe_ix ix_tup (pv 0) pe_int (fun _ _ => rfl)) (pa_cons (pe_tup (pa_cons pe_str (pa_cons pe_str pa_nil))) pa_nil))))))))
        (pss_one (ps_ret pe_bl))
        pss_nil)
      (pss_one (ps_ret (pe_and (pe_fn hIsBetween (hr.mono (by decide)) (by rfl) (pa_cons (pe_ix ix_tup (pv 0) pe_int (fun _ _ => rfl)) (pa_cons pe_int (pa_cons pe_int pa_nil)))) (pe_one (pe_fn hIsBetween (hr.mono (by decide)) (by rfl) (pa_cons (pe_ix ix_tup (pv 0) pe_int (fun _ _ => rfl)) (pa_cons (pe_ix ix_tup (pv 0) pe_int (fun _ _ => rfl)) (pa_cons pe_int pa_nil)))))))))), ?_⟩
    obtain ⟨a, xs, rfl, t⟩ := hd.tupD
    have hl : xs.length = r.length + 1 := by rw [t.len, List.length_cons]
    refine ⟨_, rfl, a, xs, rfl, .inr t.at_, ?_⟩
    refine ⟨by show 2 ≤ sizeLine; decide, fun p hp => ⟨_, _, rfl, .inr (SqT.of upd_same), rfl, rfl, _, rfl, ?_⟩⟩
    have s1 : Same H (upd H p (.tup [.int 5, .int 6])) := snew hp
    have t1 := t.same s1
    generalize upd H p (.tup [.int 5, .int 6]) = H1 at *
    have isName : ∀ x, r[0]? = some x → ∃ v, atI xs 1 = some v ∧ Dx K H1 v x := fun x ex => t1.get 1 (by simpa using ex)
    have spec4 : ∀ x lo hi e, nmD x = true → Exq.eachOk nmD [x, lo, hi, e] = (Exq.btw 0 7 lo && (match lo with
        | .int i => Exq.btw i 7 hi
        | _ => false)) := fun x lo hi e c => by
      show (nmD x && _) = _
      rw [c, Bool.true_and] <;> rfl
    have spec5 : ∀ x lo hi e q, nmD x = true → Exq.oneOf ["up", "down"] q = true → Exq.eachOk nmD [x, lo, hi, e, q] = (Exq.btw 0 7 lo && (match lo with
        | .int i => Exq.btw i 7 hi
        | _ => false)) := fun x lo hi e q c c' => by
      show (nmD x && (Exq.oneOf ["up", "down"] q && _)) = _
      rw [c, c', Bool.true_and, Bool.true_and] <;> rfl
    have specN : ∀ x r', r = x :: r' → nmD x = false → Exq.eachOk nmD r = false := fun x r' er c => by
      subst er
      unfold Exq.eachOk
      split <;> first | rfl | (rename_i q; cases q; rw [c, Bool.false_and])
    refine ite2 (fun c => ?_) (fun c => ?_)
    · have c : (!(decide ((5 : Int) = (xs.length : Nat)) || decide ((6 : Int) = (xs.length : Nat)))) = true := by rw [← inV_int2]; exact c
      rw [hl] at c
      have no : ¬ (r.length = 4 ∨ r.length = 5) := by
        simp at c
        omega
      refine iteT ?_
      have := k H1 s1
      rw [each_len no] at this
      exact this
    · have c : ¬ (!(decide ((5 : Int) = (xs.length : Nat)) || decide ((6 : Int) = (xs.length : Nat)))) = true := by rw [← inV_int2]; exact c
      rw [hl] at c
      have hn : r.length = 4 ∨ r.length = 5 := by
        simp at c
        omega
      obtain ⟨x, r', er⟩ : ∃ x r', r = x :: r' := by
        cases r with
        | nil => simp at hn
        | cons x r' => exact ⟨x, r', rfl⟩
      obtain ⟨v1, e1, h1⟩ := isName x (by rw [er]; rfl)
      have wx : wt x ≤ 100000 := Nat.le_trans (wtA_mem (by rw [er]; exact List.mem_cons_self ..)) hw
      refine ⟨_, rfl, a, xs, _, v1, rfl, rfl, t1.at_, e1, v1, x, rfl, h1, wt_str wx, fun H2 s2 => ⟨_, rfl, ?_⟩⟩
      have t2 := t1.same s2
      have s02 := s1.trans s2
      cases cn : nmD x with
      | false =>
        refine iteT ?_
        have := k H2 s02
        rw [specN x r' er cn] at this
        exact this
      | true =>
        refine iteF ?_
        refine ⟨_, rfl, a, xs, rfl, .inr t2.at_, rfl, _, rfl, ?_⟩
        rcases hn with hn | hn
        · obtain ⟨x', lo, hi, e, rfl⟩ := len4 hn
          cases er
          refine ite2 (fun c3 => ?_) (fun c3 => ?_)
          · exfalso
            have c3 := V.int.inj (of_decide_eq_true c3)
            rw [hl] at c3
            simp at c3
          refine iteF ?_
          have H3 := H2
          have t3 := t2
          have s03 := s02
          cases lo with
          | int n =>
            obtain ⟨v2, e2, h2⟩ := t3.get 2 (d := .int n) rfl
            obtain ⟨v3, e3, h3⟩ := t3.get 3 (d := hi) rfl
            cases h2
            refine ⟨_, rfl, a, xs, _, _, rfl, rfl, t3.at_, e2, _, _, _, _, rfl, .int n, _, rfl, ?_⟩
            refine ite2 (fun c5 => ?_) (fun c5 => ?_)
            · refine ⟨_, rfl, a, xs, _, _, rfl, rfl, t3.at_, e3, _, rfl, a, xs, _, _, rfl, rfl, t3.at_, e2, v3, hi, n, 7, rfl, h3, ?_⟩
              have := k H2 s03
              rw [spec4 _ _ _ _ cn, c5] at this
              exact this
            · have := k H2 s03
              rw [spec4 _ _ _ _ cn, Bool.eq_false_iff.mpr c5] at this
              exact this
          | _ =>
            obtain ⟨v2, e2, h2⟩ := t3.get 2 rfl
            refine ⟨_, rfl, a, xs, _, _, rfl, rfl, t3.at_, e2, v2, _, _, _, rfl, h2, _, rfl, iteF ?_⟩
            have := k H2 s03
            rw [spec4 _ _ _ _ cn] at this
            exact this
        · obtain ⟨x', lo, hi, e, q, rfl⟩ := len5 hn
          cases er
          refine ite2 (fun c3 => ?_) (fun c3 => ?_)
          · obtain ⟨v5, e5, h5⟩ := t2.get 5 (d := q) rfl
            refine ⟨_, rfl, a, xs, _, v5, rfl, rfl, t2.at_, e5, by show 2 ≤ sizeLine; decide, fun p2 hp2 => ?_⟩
            have sU := snew (o := .tup [V.str "up", V.str "down"]) hp2
            have uP : SqT K (upd H2 p2 (.tup [V.str "up", V.str "down"])) p2 (([("up" : Str), "down"] : List Str).map V.str) := SqT.of upd_same
            have h5' := dxSame sU _ _ h5
            have t3 := t2.same sU
            have s03 := s02.trans sU
            refine ⟨v5, q, p2, [("up" : Str), "down"], rfl, h5', uP, _, rfl, ?_⟩
            generalize upd H2 p2 (.tup [V.str "up", V.str "down"]) = H3 at *
            cases cq : Exq.oneOf ["up", "down"] q with
            | false =>
              refine iteT ?_
              have := k H3 s03
              have z : Exq.eachOk nmD [x, lo, hi, e, q] = false := by
                show (nmD x && (Exq.oneOf ["up", "down"] q && _)) = _
                rw [cq, Bool.false_and, Bool.and_false]
              rw [z] at this
              exact this
            | true =>
              refine iteF ?_
              cases lo with
              | int n =>
                obtain ⟨v2, e2, h2⟩ := t3.get 2 (d := .int n) rfl
                obtain ⟨v3, e3, h3⟩ := t3.get 3 (d := hi) rfl
                cases h2
                refine ⟨_, rfl, a, xs, _, _, rfl, rfl, t3.at_, e2, _, _, _, _, rfl, .int n, _, rfl, ?_⟩
                refine ite2 (fun c5 => ?_) (fun c5 => ?_)
                · refine ⟨_, rfl, a, xs, _, _, rfl, rfl, t3.at_, e3, _, rfl, a, xs, _, _, rfl, rfl, t3.at_, e2, v3, hi, n, 7, rfl, h3, ?_⟩
                  have := k H3 s03
                  rw [spec5 _ _ _ _ _ cn cq, c5] at this
                  exact this
                · have := k H3 s03
                  rw [spec5 _ _ _ _ _ cn cq, Bool.eq_false_iff.mpr c5] at this
                  exact this
              | _ =>
                obtain ⟨v2, e2, h2⟩ := t3.get 2 rfl
                refine ⟨_, rfl, a, xs, _, _, rfl, rfl, t3.at_, e2, v2, _, _, _, rfl, h2, _, rfl, iteF ?_⟩
                have := k H3 s03
                rw [spec5 _ _ _ _ _ cn cq] at this
                exact this
          · exfalso
            apply c3
            refine decide_eq_true ?_
            rw [hl]
            rfl
end
/-! ### is_node -/
def nodeD : PyData → Bool
  | .tuple (.str h :: r) => Exq.nodeOk nmD h r
  | _ => false
def spNode (K : PySem.W.Frag) : Sp := fun vs H Q _ => ∃ v d, vs = [v] ∧ Dx K H v d ∧ wt d ≤ 100000 ∧ ∀ H', Same H H' → Q (.bl (nodeD d)) H'
theorem lenT {n : Nat} {m : Int} (h : decide (V.int (n : Nat) = V.int m) = true) : (n : Int) = m := V.int.inj (of_decide_eq_true h)
theorem lenF {n : Nat} {m : Int} (h : ¬ decide (V.int (n : Nat) = V.int m) = true) : (n : Int) ≠ m := fun e => h (decide_eq_true (by rw [e]))
theorem hdB_not {d : PyData} (h : hdB d = false) : nodeD d = false := by
  unfold nodeD
  split
  · cases h
  · rfl
theorem hdB_is {d : PyData} (h : hdB d = true) : ∃ x r, d = .tuple (.str x :: r) := by
  unfold hdB at h
  split at h
  · exact ⟨_, _, rfl⟩
  · cases h
theorem op_node {h : Str} {r : List PyData} (m : h ∈ Exq.opsN) : Exq.nodeOk nmD h r = (decide (r.length = 2) || (decide (r.length = 3) && Exq.oneOf ["left", "right"] (r.getD 2 .none))) := by
  unfold Exq.nodeOk
  rw [if_pos m]
  match r with
  | [] => rfl
  | [_] => rfl
  | [_, _] => rfl
  | [_, _, p] => rfl
  | _ :: _ :: _ :: _ :: _ => simp
theorem name_node {r : List PyData} : Exq.nodeOk nmD "name" r = ((decide (r.length = 1) || decide (r.length = 2)) && (nmD (r.getD 0 .none) && (decide (r.length = 1) || Exq.btw 0 3 (r.getD 1 .none)))) := by
  unfold Exq.nodeOk
  rw [if_neg (by decide +kernel), if_neg (by decide +kernel), if_pos rfl]
  match r with
  | [] => rfl
  | [x] => simp
  | [x, k] => simp
  | _ :: _ :: _ :: _ => simp
theorem each_node {r : List PyData} : Exq.nodeOk nmD "each" r = Exq.eachOk nmD r := by
  unfold Exq.nodeOk
  rw [if_neg (by decide +kernel), if_pos rfl]
/-- the heads that are told by their length alone, or with one part more -/
theorem other_node {h : Str} {r : List PyData} (no : h ∉ Exq.opsN) (n1 : h ≠ "each") (n2 : h ≠ "name") : Exq.nodeOk nmD h r = (decide (h ∈ lenKeys) && (decide ((r.length : Int) + 1 = lenAt h) && (if h = "number" then Exq.btw 0 7 (r.getD 0 .none) else
    (!(decide (h ∈ [("set" : Str), "call"])) || nmD (r.getD 0 .none))))) := by
  unfold Exq.nodeOk
  rw [if_neg no, if_neg n1, if_neg n2]
  by_cases e1 : h = "number"
  · subst e1
    rw [if_pos rfl, if_pos rfl, show lenAt "number" = 2 by decide +kernel, show decide (("number" : Str) ∈ lenKeys) = true by decide +kernel]
    match r with
    | [] => rfl
    | [_] => simp
    | _ :: _ :: q => simp; omega
  rw [if_neg e1, if_neg e1]
  by_cases e2 : h = "set"
  · subst e2
    rw [if_pos rfl, show lenAt "set" = 3 by decide +kernel, show decide (("set" : Str) ∈ lenKeys) = true by decide +kernel, show decide (("set" : Str) ∈ [("set" : Str), "call"]) = true by decide +kernel]
    match r with
    | [] => rfl
    | [_] => rfl
    | [_, _] => simp
    | _ :: _ :: _ :: q => simp; omega
  rw [if_neg e2]
  by_cases e3 : h = "show"
  · subst e3
    rw [if_pos rfl, show lenAt "show" = 2 by decide +kernel, show decide (("show" : Str) ∈ lenKeys) = true by decide +kernel, show decide (("show" : Str) ∈ [("set" : Str), "call"]) = false by decide +kernel]
    simp
    omega
  rw [if_neg e3]
  by_cases e4 : h = "ask"
  · subst e4
    rw [if_pos rfl, show lenAt "ask" = 1 by decide +kernel, show decide (("ask" : Str) ∈ lenKeys) = true by decide +kernel, show decide (("ask" : Str) ∈ [("set" : Str), "call"]) = false by decide +kernel]
    match r with
    | [] => rfl
    | _ :: q => simp; omega
  rw [if_neg e4]
  by_cases e5 : h = "if"
  · subst e5
    rw [if_pos rfl, show lenAt "if" = 4 by decide +kernel, show decide (("if" : Str) ∈ lenKeys) = true by decide +kernel, show decide (("if" : Str) ∈ [("set" : Str), "call"]) = false by decide +kernel]
    simp
    omega
  rw [if_neg e5]
  by_cases e6 : h = "then"
  · subst e6
    rw [if_pos rfl, show lenAt "then" = 3 by decide +kernel, show decide (("then" : Str) ∈ lenKeys) = true by decide +kernel, show decide (("then" : Str) ∈ [("set" : Str), "call"]) = false by decide +kernel]
    simp
    omega
  rw [if_neg e6]
  by_cases e7 : h = "while"
  · subst e7
    rw [if_pos rfl, show lenAt "while" = 3 by decide +kernel, show decide (("while" : Str) ∈ lenKeys) = true by decide +kernel, show decide (("while" : Str) ∈ [("set" : Str), "call"]) = false by decide +kernel]
    simp
    omega
  rw [if_neg e7]
  by_cases e8 : h = "call"
  · subst e8
    rw [if_pos rfl, show lenAt "call" = 2 by decide +kernel, show decide (("call" : Str) ∈ lenKeys) = true by decide +kernel, show decide (("call" : Str) ∈ [("set" : Str), "call"]) = true by decide +kernel]
    match r with
    | [] => rfl
    | [_] => simp
    | _ :: _ :: q => simp; omega
  rw [if_neg e8]
  have : h ∉ lenKeys := by
    unfold lenKeys
    simp only [List.mem_cons, List.not_mem_nil, or_false, not_or]
    exact ⟨e1, e2, e3, e4, e5, e6, e7, e8⟩
  rw [decide_eq_false this, Bool.false_and]
section
variable {P : Program} {w : World} {K : PySem.W.Frag} {mg : Str → Option Value} {base : Heap}
theorem scIsNode : FnScope ["thing", "head"] ["thing"] (defScope sIsNode) := ⟨rfl, rfl, rfl, by decide +kernel, rfl, by decide +kernel, by decide +kernel⟩
theorem hIsNode (D : DS K mg) (T : TF mg) (B : TW K mg) (W : TT K w mg) : Has P w K mg base CX0 "is_node" sIsNode ["thing"] 4 (spNode K) := by
  have hIsHeaded : Has P w K mg base CX0 _ _ _ 1 _ := hIsHeaded D T
  have hIsEach : Has P w K mg base CX0 _ _ _ 3 _ := hIsEach D T B
  have hIsName : Has P w K mg base CX0 _ _ _ 1 _ := hIsName D T B
  have hIsWord : Has P w K mg base CX0 _ _ _ 1 _ := hIsWord D T
  have hIsBetween : Has P w K mg base CX0 _ _ _ 2 _ := hIsBetween D T
  obtain ⟨es, n, kd⟩ := W.lenT.kd
  refine Has.mk0 D.aIsNode scIsNode (fun _ _ _ _ _ _ us hl => match us, hl with | [_], _ => rfl) (fun vs H Q E h => ?_) (fun cdv A outer s H vs Q E hr h => ?_)
  · obtain ⟨v, d, rfl, _⟩ := h
    rfl
  · obtain ⟨v, d, rfl, hd, hw, k⟩ := h
    refine ⟨_, (pss_cons (ps_if (pt_not (pt_val (pe_fn hIsHeaded (hr.mono (by decide)) (by rfl) (pa_cons (pv 0) pa_nil))))
        (pss_one (ps_ret pe_bl))
        pss_nil)
      (pss_cons (ps_set (i := 1) scIsNode.nd rfl (Or.inl rfl) (pe_ix ix_tup (pv 0) pe_int (fun _ _ => rfl)))
      (pss_cons (ps_if (pt_cmpR op_in_seq (pv 1) (pe_glob (v := .ref (ga K "OPERATIONS")) (by rfl) W.ops rfl) (by rfl))
        (pss_one (ps_ret (pe_or (pe_cmpR op_eq (pe_callB call_len_seq (by rfl) T.len PySem.boot_len (pa_cons (pv 0) pa_nil)) pe_int (nomark _)) (pe_one (pe_and (pe_cmpR op_eq (pe_callB call_len_seq (by rfl) T.len PySem.boot_len (pa_cons (pv 0) pa_nil)) pe_int (nomark _)) (pe_one (pe_fn hIsWord (hr.mono (by decide)) (by rfl) (pa_cons (pe_ix ix_tup (pv 0) pe_int (fun _ _ => rfl)) (pa_cons (pe_tup (pa_cons pe_str (pa_cons pe_str pa_nil))) pa_nil)))))))))
        pss_nil)
      (pss_cons (ps_if (pt_cmpR op_eq (pv 1) pe_str (nomark _))
        (pss_one (ps_ret (pe_fn hIsEach (hr.mono (by decide)) (by rfl) (pa_cons (pv 0) pa_nil))))
        pss_nil)
      (pss_cons (ps_if (pt_cmpR op_eq (pv 1) pe_str (nomark _))
        (pss_one (ps_ret (pe_and (pe_cmpR op_in_seq (pe_callB call_len_seq (by rfl) T.len PySem.boot_len (pa_cons (pv 0) pa_nil)) (pe_tup (pa_cons pe_int (pa_cons pe_int pa_nil))) (by rfl)) (pe_and (pe_fn hIsName (hr.mono (by decide)) (by rfl) (pa_cons (pe_ix ix_tup (pv 0) pe_int (fun _ _ => rfl)) pa_nil)) (pe_one (pe_or (pe_cmpR op_eq (pe_callB call_len_seq (by rfl) T.len PySem.boot_len (pa_cons (pv 0) pa_nil)) pe_int (nomark _)) (pe_one (pe_fn hIsBetween (hr.mono (by decide)) (by rfl) (pa_cons (pe_ix ix_tup (pv 0) pe_int (fun _ _ => rfl)) (pa_cons pe_int (pa_cons pe_int pa_nil)))))))))))
        pss_nil)
      (pss_cons (ps_if (PW.pt (pw_or (pt_cmpR (op_notIn_kd kd) (pv 1) (pe_glob (v := .ref (ga K "LENGTHS")) (by rfl) W.len rfl) (by rfl)) (pw_or1 (pt_cmpR op_ne (pe_callB call_len_seq (by rfl) T.len PySem.boot_len (pa_cons (pv 0) pa_nil)) (pe_ix (ix_kd kd) (pe_glob (v := .ref (ga K "LENGTHS")) (by rfl) W.len rfl) (pv 1) (fun _ _ => rfl)) (nomark _)))))
        (pss_one (ps_ret pe_bl))
        pss_nil)
      (pss_cons (ps_if (pt_cmpR op_eq (pv 1) pe_str (nomark _))
        (pss_one (ps_ret (pe_fn hIsBetween (hr.mono (by decide)) (by rfl) (pa_cons (pe_ix ix_tup (pv 0) pe_int (fun _ _ => rfl)) (pa_cons pe_int (pa_cons pe_int pa_nil))))))
        pss_nil)
      (pss_one (ps_ret (pe_or (pe_cmpR op_notIn_seq (pv 1) (pe_tup (pa_cons pe_str (pa_cons pe_str pa_nil))) (by rfl)) (pe_one (pe_fn hIsName (hr.mono (by decide)) (by rfl) (pa_cons (pe_ix ix_tup (pv 0) pe_int (fun _ _ => rfl)) pa_nil))))))))))))), ?_⟩
    refine ⟨_, rfl, v, d, rfl, hd, _, rfl, ?_⟩
    cases ch : hdB d with
    | false =>
      refine iteT ?_
      have := k H rsame
      rw [hdB_not ch] at this
      exact this
    | true =>
    refine iteF ?_
    obtain ⟨h, r, rfl⟩ := hdB_is ch
    replace k : ∀ H', Same H H' → Q (.bl (Exq.nodeOk nmD h r)) H' := k
    have hw' : wtA r ≤ 100000 := by
      simp only [wt, wtA] at hw
      omega
    obtain ⟨a, xs, rfl, t⟩ := hd.tupD
    have hl : xs.length = r.length + 1 := by rw [t.len, List.length_cons]
    obtain ⟨v0, e0, h0⟩ := t.get 0 rfl
    cases h0
    refine ⟨_, rfl, a, xs, _, _, rfl, rfl, t.at_, e0, ?_⟩
    refine ⟨_, rfl, _, _, rfl, .inr (W.opsT _), rfl, flat_strs _, _, rfl, ?_⟩
    refine ite2 (fun c => ?_) (fun c => ?_)
    · have m : h ∈ Exq.opsN := by
        have c : inV (.str h) (Exq.opsN.map V.str) = true := c
        rw [inV_strs] at c
        exact of_decide_eq_true c
      refine ⟨_, rfl, a, xs, rfl, .inr t.at_, rfl, _, rfl, ?_⟩
      refine ite2 (fun c1 => ?_) (fun c1 => ?_)
      · have z := lenT c1
        have := k H rsame
        rw [op_node m, decide_eq_true (show r.length = 2 by omega), Bool.true_or] at this
        exact this
      · have z1 := lenF c1
        have z1' : decide (r.length = 2) = false := decide_eq_false (by omega)
        refine ⟨_, rfl, a, xs, rfl, .inr t.at_, rfl, _, rfl, ?_⟩
        refine ite2 (fun c2 => ?_) (fun c2 => ?_)
        · have z2 := lenT c2
          obtain ⟨x, y, p, rfl⟩ := len3 (show r.length = 3 by omega)
          obtain ⟨v3, e3, h3⟩ := t.get 3 (d := p) rfl
          refine ⟨_, rfl, a, xs, _, _, rfl, rfl, t.at_, e3, by show 2 ≤ sizeLine; decide, fun p2 hp2 => ?_⟩
          have sU := snew (o := .tup [V.str "left", V.str "right"]) hp2
          refine ⟨v3, p, p2, [("left" : Str), "right"], rfl, dxSame sU _ _ h3, SqT.of upd_same, ?_⟩
          have := k _ sU
          rw [op_node m] at this
          exact this
        · have z2 := lenF c2
          have := k H rsame
          rw [op_node m, z1', decide_eq_false (show ¬ r.length = 3 by omega), Bool.false_and, Bool.false_or] at this
          exact this
    · have no : h ∉ Exq.opsN := fun m => c (by
        show inV (.str h) (Exq.opsN.map V.str) = true
        rw [inV_strs]
        exact decide_eq_true m)
      refine ⟨_, rfl, rfl, _, rfl, ?_⟩
      refine ite2 (fun c1 => ?_) (fun c1 => ?_)
      · cases V.str.inj (of_decide_eq_true c1)
        refine ⟨_, rfl, .ref a, _, r, rfl, t.dx, hw', fun H1 s1 => ?_⟩
        have := k H1 s1
        rw [each_node] at this
        exact this
      · have n1 : h ≠ "each" := fun e => c1 (decide_eq_true (by rw [e]))
        refine ⟨_, rfl, rfl, _, rfl, ?_⟩
        refine ite2 (fun c2 => ?_) (fun c2 => ?_)
        · cases V.str.inj (of_decide_eq_true c2)
          refine ⟨_, rfl, a, xs, rfl, .inr t.at_, by show 2 ≤ sizeLine; decide, fun p hp => ⟨_, _, rfl, .inr (SqT.of upd_same), rfl, rfl, _, rfl, ?_⟩⟩
          have s1 : Same H (upd H p (.tup [.int 2, .int 3])) := snew hp
          have t1 := t.same s1
          generalize upd H p (.tup [.int 2, .int 3]) = H1 at *
          refine ite2 (fun c3 => ?_) (fun c3 => ?_)
          · have c3 : (decide ((2 : Int) = (xs.length : Nat)) || decide ((3 : Int) = (xs.length : Nat))) = true := by rw [← inV_int2]; exact c3
            rw [hl] at c3
            have hn : r.length = 1 ∨ r.length = 2 := by
              simp at c3
              omega
            have hb : (decide (r.length = 1) || decide (r.length = 2)) = true := by simpa using hn
            obtain ⟨x, r', er⟩ : ∃ x r', r = x :: r' := by
              cases r with
              | nil => simp at hn
              | cons x r' => exact ⟨x, r', rfl⟩
            have gx : r.getD 0 .none = x := by rw [er]; rfl
            obtain ⟨v1, e1, h1⟩ := t1.get 1 (d := x) (by rw [er]; rfl)
            have wx : wt x ≤ 100000 := Nat.le_trans (wtA_mem (by rw [er]; exact List.mem_cons_self ..)) hw'
            refine ⟨_, rfl, a, xs, _, v1, rfl, rfl, t1.at_, e1, v1, x, rfl, h1, wt_str wx, fun H2 s2 => ⟨_, rfl, ?_⟩⟩
            have t2 := t1.same s2
            have s02 := s1.trans s2
            refine ite2 (fun c4 => ?_) (fun c4 => ?_)
            · refine ⟨_, rfl, a, xs, rfl, .inr t2.at_, rfl, _, rfl, ?_⟩
              refine ite2 (fun c5 => ?_) (fun c5 => ?_)
              · have z := lenT c5
                have := k H2 s02
                rw [name_node, hb, gx, c4, decide_eq_true (show r.length = 1 by omega)] at this
                exact this
              · have z := lenF c5
                have z1 : ¬ r.length = 1 := by omega
                obtain ⟨x', y, rfl⟩ := len2 (show r.length = 2 by omega)
                obtain ⟨v2, e2, h2⟩ := t2.get 2 (d := y) rfl
                refine ⟨_, rfl, a, xs, _, v2, rfl, rfl, t2.at_, e2, v2, y, 0, 3, rfl, h2, ?_⟩
                have := k H2 s02
                rw [name_node, hb, gx, c4] at this
                exact this
            · have := k H2 s02
              rw [name_node, hb, gx, Bool.eq_false_iff.mpr c4] at this
              exact this
          · have c3 : ¬ (decide ((2 : Int) = (xs.length : Nat)) || decide ((3 : Int) = (xs.length : Nat))) = true := by rw [← inV_int2]; exact c3
            rw [hl] at c3
            have hb : (decide (r.length = 1) || decide (r.length = 2)) = false := by
              simp at c3 ⊢
              omega
            have := k H1 s1
            rw [name_node, hb, Bool.false_and] at this
            exact this
        · have n2 : h ≠ "name" := fun e => c2 (decide_eq_true (by rw [e]))
          have sp := other_node (r := r) no n1 n2
          have toName : ∀ x, r[0]? = some x → ∃ v, atI xs (1 : Int) = some v ∧ Dx K H v x ∧ wt x ≤ 100000 := fun x ex => by
            obtain ⟨v, e, q⟩ := t.get 1 (d := x) (by simpa using ex)
            exact ⟨v, e, q, Nat.le_trans (wtA_at ex) hw'⟩
          by_cases m : h ∈ lenKeys
          · obtain ⟨u, v, q1, q2, q3⟩ := W.lenT.hit h m
            have q3 : v = .int (lenAt h) := q3
            subst q3
            refine ⟨_, rfl, h, some u, rfl, rfl, q1, _, rfl, iteF ?_⟩
            refine ⟨_, rfl, a, xs, rfl, .inr t.at_, _, rfl, h, u, _, rfl, rfl, q1, q2, rfl, _, rfl, ?_⟩
            rw [hl]
            refine ite2 (fun c3 => ?_) (fun c3 => ?_)
            · have z : ¬ (((r.length + 1 : Nat) : Int) = lenAt h) := fun e => by
                rw [e] at c3
                simp at c3
              have := k H rsame
              rw [sp, decide_eq_false (show ¬ (r.length : Int) + 1 = lenAt h by simpa using z), Bool.false_and, Bool.and_false] at this
              exact this
            · have z : ((r.length + 1 : Nat) : Int) = lenAt h := by
                by_cases z : ((r.length + 1 : Nat) : Int) = lenAt h
                · exact z
                · exact absurd (by rw [decide_eq_false (fun e => z (V.int.inj e))]; rfl) c3
              rw [decide_eq_true m, decide_eq_true (show (r.length : Int) + 1 = lenAt h by simpa using z), Bool.true_and, Bool.true_and] at sp
              refine ⟨_, rfl, rfl, _, rfl, ?_⟩
              refine ite2 (fun c4 => ?_) (fun c4 => ?_)
              · cases V.str.inj (of_decide_eq_true c4)
                have l1 : r.length = 1 := by
                  rw [show lenAt "number" = 2 by decide +kernel] at z
                  omega
                obtain ⟨x, rfl⟩ := len1 l1
                obtain ⟨v1, e1, h1, _⟩ := toName x rfl
                refine ⟨_, rfl, a, xs, _, v1, rfl, rfl, t.at_, e1, v1, x, 0, 7, rfl, h1, ?_⟩
                have := k H rsame
                rw [sp, if_pos rfl] at this
                exact this
              · have n3 : h ≠ "number" := fun e => c4 (decide_eq_true (by rw [e]))
                rw [if_neg n3] at sp
                refine ⟨_, rfl, by show 2 ≤ sizeLine; decide, fun p hp => ⟨_, _, rfl, .inr (SqT.of upd_same), rfl, flat_strs ["set", "call"], _, rfl, ?_⟩⟩
                have s1 : Same H (upd H p (.tup (([("set" : Str), "call"] : List Str).map V.str))) := snew hp
                have t1 := t.same s1
                have ei : inV (V.str h) (([("set" : Str), "call"] : List Str).map V.str) = decide (h ∈ [("set" : Str), "call"]) := inV_strs h _
                refine ite2 (fun c5 => ?_) (fun c5 => ?_)
                · have c5 : (!inV (V.str h) (([("set" : Str), "call"] : List Str).map V.str)) = true := c5
                  rw [ei] at c5
                  have := k _ s1
                  rw [sp, c5, Bool.true_or] at this
                  exact this
                · have c5 : ¬ (!inV (V.str h) (([("set" : Str), "call"] : List Str).map V.str)) = true := c5
                  rw [ei] at c5
                  have hsc : h = "set" ∨ h = "call" := by
                    have c5 := c5
                    simp at c5
                    exact Decidable.or_iff_not_imp_left.mpr c5
                  have l1 : 1 ≤ r.length := by
                    rcases hsc with rfl | rfl
                    · rw [show lenAt "set" = 3 by decide +kernel] at z
                      omega
                    · rw [show lenAt "call" = 2 by decide +kernel] at z
                      omega
                  obtain ⟨x, r', rfl⟩ : ∃ x r', r = x :: r' := by
                    cases r with
                    | nil => simp at l1
                    | cons x r' => exact ⟨x, r', rfl⟩
                  obtain ⟨v1, e1, _, wx⟩ := toName x rfl
                  obtain ⟨v1', e1', h1'⟩ := t1.get 1 (d := x) rfl
                  refine ⟨_, rfl, a, xs, _, v1', rfl, rfl, t1.at_, e1', v1', x, rfl, h1', wt_str wx, fun H2 s2 => ?_⟩
                  have := k H2 (s1.trans s2)
                  rw [sp, Bool.eq_false_iff.mpr c5, Bool.false_or] at this
                  exact this
          · refine ⟨_, rfl, h, none, rfl, rfl, W.lenT.miss h m, _, rfl, iteT (iteT ?_)⟩
            have := k H rsame
            rw [sp, decide_eq_false m, Bool.false_and] at this
            exact this
end
end Any
set_option Elab.async false
set_option linter.all false
set_option maxRecDepth 100000
set_option maxHeartbeats 4000000
/-! is_tree. -/
namespace Any
open PySem PySem.Spec PyProof.Rows L2
open He (ga ma)
abbrev exD : PyData → Bool := Exq.exOk nmD
theorem kids_op {h : Str} {r : List PyData} (m : h ∈ Exq.opsN) : Exq.kids h r = r.take 2 := by
  unfold Exq.kids
  rw [if_pos m]
theorem at_op {h : Str} (m : h ∈ Exq.opsN) : kidsAt h = [1, 2] := by
  unfold kidsAt
  rw [if_pos m]
/-- a node's parts stand where its head says -/
theorem kids_map {h : Str} {r : List PyData} (ok : Exq.nodeOk nmD h r = true) : Exq.kids h r = (kidsAt h).map (fun i => (PyData.str h :: r).getD i .none) ∧ ∀ i ∈ kidsAt h, i < r.length + 1 := by
  by_cases m : h ∈ Exq.opsN
  · rw [op_node m] at ok
    have hl : r.length = 2 ∨ r.length = 3 := by
      simp only [Bool.or_eq_true, Bool.and_eq_true, decide_eq_true_eq] at ok
      rcases ok with ok | ok
      · exact .inl ok
      · exact .inr ok.1
    rw [kids_op m, at_op m]
    rcases hl with hl | hl
    · obtain ⟨x, y, rfl⟩ := len2 hl
      exact ⟨rfl, by intro i hi; simp at hi; simp; omega⟩
    · obtain ⟨x, y, z, rfl⟩ := len3 hl
      exact ⟨rfl, by intro i hi; simp at hi; simp; omega⟩
  by_cases e1 : h = "each"
  · subst e1
    rw [each_node] at ok
    have hl : r.length = 4 ∨ r.length = 5 := by
      by_cases z : r.length = 4 ∨ r.length = 5
      · exact z
      · rw [each_len z] at ok
        cases ok
    rcases hl with hl | hl
    · obtain ⟨x, y, z, u, rfl⟩ := len4 hl
      exact ⟨rfl, by intro i hi; rw [show kidsAt "each" = [4] by decide +kernel] at hi; simp at hi; simp; omega⟩
    · obtain ⟨x, y, z, u, q, rfl⟩ := len5 hl
      exact ⟨rfl, by intro i hi; rw [show kidsAt "each" = [4] by decide +kernel] at hi; simp at hi; simp; omega⟩
  by_cases e2 : h = "name"
  · subst e2
    exact ⟨rfl, by intro i hi; rw [show kidsAt "name" = [] by decide +kernel] at hi; cases hi⟩
  rw [other_node m e1 e2] at ok
  simp only [Bool.and_eq_true, decide_eq_true_eq] at ok
  obtain ⟨k, l, _⟩ := ok
  unfold lenKeys at k
  simp only [List.mem_cons, List.not_mem_nil, or_false] at k
  rcases k with rfl | rfl | rfl | rfl | rfl | rfl | rfl | rfl
  · exact ⟨rfl, by intro i hi; rw [show kidsAt "number" = [] by decide +kernel] at hi; cases hi⟩
  · rw [show lenAt "set" = 3 by decide +kernel] at l
    obtain ⟨x, y, rfl⟩ := len2 (show r.length = 2 by omega)
    exact ⟨rfl, by intro i hi; rw [show kidsAt "set" = [2] by decide +kernel] at hi; simp at hi; simp; omega⟩
  · rw [show lenAt "show" = 2 by decide +kernel] at l
    obtain ⟨x, rfl⟩ := len1 (show r.length = 1 by omega)
    exact ⟨rfl, by intro i hi; rw [show kidsAt "show" = [1] by decide +kernel] at hi; simp at hi; simp; omega⟩
  · exact ⟨rfl, by intro i hi; rw [show kidsAt "ask" = [] by decide +kernel] at hi; cases hi⟩
  · rw [show lenAt "if" = 4 by decide +kernel] at l
    obtain ⟨x, y, z, rfl⟩ := len3 (show r.length = 3 by omega)
    exact ⟨rfl, by intro i hi; rw [show kidsAt "if" = [1, 2, 3] by decide +kernel] at hi; simp at hi; simp; omega⟩
  · rw [show lenAt "then" = 3 by decide +kernel] at l
    obtain ⟨x, y, rfl⟩ := len2 (show r.length = 2 by omega)
    exact ⟨rfl, by intro i hi; rw [show kidsAt "then" = [1, 2] by decide +kernel] at hi; simp at hi; simp; omega⟩
  · rw [show lenAt "while" = 3 by decide +kernel] at l
    obtain ⟨x, y, rfl⟩ := len2 (show r.length = 2 by omega)
    exact ⟨rfl, by intro i hi; rw [show kidsAt "while" = [1, 2] by decide +kernel] at hi; simp at hi; simp; omega⟩
  · exact ⟨rfl, by intro i hi; rw [show kidsAt "call" = [] by decide +kernel] at hi; cases hi⟩
theorem node_else {d : PyData} (h : nodeD d = false) : exD d = false := by
  unfold nodeD at h
  split at h
  · rename_i x r
    show Exq.exOk nmD _ = false
    rw [Exq.exOk_node, h, Bool.false_and]
  · rename_i q
    exact Exq.exOk_else nmD d fun x r e => q x r e
theorem node_is {d : PyData} (h : nodeD d = true) : ∃ x r, d = .tuple (.str x :: r) ∧ Exq.nodeOk nmD x r = true := by
  unfold nodeD at h
  split at h
  · exact ⟨_, _, rfl, h⟩
  · cases h
/-- what a node weighs is enough for what it holds -/
theorem kids_wt {h : Str} {r : List PyData} : (Exq.kids h r).Sublist r := by
  unfold Exq.kids
  split
  · exact List.take_sublist ..
  split
  · exact (List.take_sublist ..).trans (List.drop_sublist ..)
  split
  · exact (List.take_sublist ..).trans (List.drop_sublist ..)
  split
  · exact List.take_sublist ..
  split
  · exact List.take_sublist ..
  split
  · exact List.take_sublist ..
  split
  · exact List.take_sublist ..
  · exact List.nil_sublist _
theorem size_sub (f : PyData → Nat) : ∀ {xs ys : List PyData}, xs.Sublist ys → (xs.map f).sum ≤ (ys.map f).sum
  | _, _, .slnil => Nat.le_refl _
  | _, _, .cons a h => by
    have := size_sub f h
    simp only [List.map_cons, List.sum_cons]
    omega
  | _, _, .cons₂ a h => by
    have := size_sub f h
    simp only [List.map_cons, List.sum_cons]
    omega
theorem sizeN_wt : ∀ (n : Nat) (d : PyData), Exq.sizeN n d ≤ wt d
  | 0, d => wt_pos d
  | n + 1, d => by
    rcases hd : d with _ | _ | _ | _ | _ | xs | _
    case tuple =>
      cases xs with
      | nil => exact wt_pos _
      | cons y r =>
        cases y with
        | str h =>
          show 1 + ((Exq.kids h r).map (Exq.sizeN n)).sum ≤ _
          have h1 := size_sub (Exq.sizeN n) (kids_wt (h := h) (r := r))
          have h2 : ∀ l : List PyData, (l.map (Exq.sizeN n)).sum ≤ wtA l := by
            intro l
            induction l with
            | nil => exact Nat.le_refl _
            | cons x l ih =>
              have := sizeN_wt n x
              simp only [List.map_cons, List.sum_cons, wtA]
              omega
          have h3 := h2 r
          simp only [wt, wtA]
          omega
        | _ => exact wt_pos _
    all_goals exact wt_pos _
theorem size_wt (d : PyData) : Exq.sizeOfEx d ≤ wt d := sizeN_wt _ d
def spTree (K : PySem.W.Frag) : Sp := fun vs H Q _ => ∃ v d, vs = [v, .non] ∧ Dx K H v d ∧ wt d ≤ 100000 ∧ ∀ H', Same H H' → Q (.bl (exD d)) H'
theorem upd_same_new {H H2 : Hp} {L : Addr} {o : HO} (s : Same H H2) (n : H L = none) : Same H (upd H2 L o) := fun b u e => by
  rw [upd_ne (ne_of_none e n)]
  exact s b u e
theorem dxA_map {K : PySem.W.Frag} {H : Hp} {xs : List V} {ds : List PyData} (all : DxAll K H xs ds) : ∀ (is : List Nat), (∀ i ∈ is, i < ds.length) → DxAll K H (is.map fun i => xs.getD i .non) (is.map fun i => ds.getD i .none)
  | [], _ => .nil
  | i :: is, h => by
    have hi := h i (List.mem_cons_self ..)
    obtain ⟨v, e, q⟩ := DxAll.at all (i := i) (d := ds[i]) (List.getElem?_eq_getElem hi)
    refine .cons ?_ (dxA_map all is fun j hj => h j (List.mem_cons_of_mem _ hj))
    show Dx K H (xs.getD i .non) (ds.getD i .none)
    rw [List.getD_eq_getElem?_getD, e, List.getD_eq_getElem?_getD, List.getElem?_eq_getElem hi]
    exact q
theorem all_snoc {f : PyData → Bool} {xs : List PyData} {x : PyData} : (xs ++ [x]).all f = (xs.all f && f x) := by
  rw [List.all_append]
  simp
theorem kidsAt_len (h : Str) : (kidsAt h).length ≤ 3 := by
  unfold kidsAt
  split
  · decide
  split
  · decide
  split
  · decide
  split
  · decide
  split
  · decide
  split
  · decide
  split <;> decide
theorem len_sum : ∀ l : List PyData, l.length ≤ (l.map Exq.sizeOfEx).sum
  | [] => Nat.le_refl _
  | x :: l => by
    have h1 := Exq.sizeOfEx_pos x
    have h2 := len_sum l
    simp only [List.map_cons, List.sum_cons, List.length_cons]
    omega
theorem map_at {α β : Type} {f : α → β} {l : List α} {i : Nat} {y : β} (h : (l.map f)[i]? = some y) : ∃ x, l[i]? = some x ∧ y = f x := by
  rw [List.getElem?_map] at h
  cases e : l[i]? with
  | none =>
    rw [e] at h
    cases h
  | some x =>
    rw [e] at h
    exact ⟨x, rfl, (Option.some.inj h).symm⟩
theorem take_map_succ {α β : Type} {f : α → β} {l : List α} {i : Nat} {x : α} (h : l[i]? = some x) : (l.take (i + 1)).map f = (l.take i).map f ++ [f x] := by
  rw [List.take_succ, h, List.map_append]
  rfl
theorem getD_at {xs : List V} {i : Nat} (h : i < xs.length) : atI xs (i : Int) = some (xs.getD i .non) := by
  refine atI_nat ?_
  rw [List.getD_eq_getElem?_getD, List.getElem?_eq_getElem h]
  rfl
section
variable {P : Program} {w : World} {K : PySem.W.Frag} {mg : Str → Option Value} {base : Heap}
theorem scIsTree : FnScope ["thing", "hole", "pending", "node", "at"] ["thing", "hole"] (defScope sIsTree) := ⟨rfl, rfl, rfl, by decide +kernel, rfl, by decide +kernel, by decide +kernel⟩
theorem hIsTree (D : DS K mg) (T : TF mg) (B : TW K mg) (W : TT K w mg) : Has P w K mg base CX0 "is_tree" sIsTree ["thing", "hole"] 5 (spTree K) := by
  have hIsNode : Has P w K mg base CX0 _ _ _ 4 _ := hIsNode D T B W
  have hChildrenOf : Has P w K mg base CX0 _ _ _ 1 _ := hChildrenOf D T W
  refine Has.mk0 D.aIsTree scIsTree (fun _ _ _ _ _ _ us hl => match us, hl with | [_, _], _ => rfl) (fun vs H Q E h => ?_) (fun cdv A outer s H vs Q E hr h => ?_)
  · obtain ⟨v, d, rfl, _⟩ := h
    rfl
  · obtain ⟨v, d, rfl, hd, hw, k⟩ := h
    refine ⟨_, (pss_cons (ps_set (i := 2) scIsTree.nd rfl (Or.inl rfl) (pe_lst (pa_cons (pv 0) pa_nil)))
      (pss_cons (ps_while PassesOwn.never (pt_truth (pv 2) (by intro _; rfl))
        (pss_cons (ps_set (i := 3) scIsTree.nd rfl (Or.inr rfl) (pe_bm0 PySem.F.plainAttrs_list PySem.F.slot_list_pop PySem.F.type_list_pop mt_pop (pv 2)))
        (pss_cons (ps_if (PW.pt (pw_and (pt_cmp (pc_notN (pv 1))) (pw_and1 (pt_cmpR (op_eqD hr.units) (pv 3) (pv 1) (nomark _)))))
          (pss_one ps_continue)
          pss_nil)
        (pss_cons (ps_if (pt_not (pt_val (pe_fn hIsNode (hr.mono (by decide)) (by rfl) (pa_cons (pv 3) pa_nil))))
          (pss_one (ps_ret pe_bl))
          pss_nil)
        (pss_one (ps_expr (pe_bm PySem.F.plainAttrs_list PySem.F.slot_list_extend PySem.F.type_list_extend mt_extend (pv 2) (pa_cons (pe_lc (own := [("at", 4)]) (g := (gName 4)) rfl scIsTree.nd (pi_tup (pe_fn hChildrenOf (hr.mono (by decide)) (by rfl) (pa_cons (pv 3) pa_nil))) (blkOk_by (own := [("at", 4)]) (N := ["thing", "hole", "pending", "node", "at"]) (sc := defScope sIsTree) (by decide +kernel)) (fun _ _ _ _ _ => (pg_name (i := 4) scIsTree.nd rfl (Or.inl rfl))) (fun _ _ _ _ _ => pts_nil) (fun _ _ _ _ _ => (pe_ix (ix_tupK (K := K) rfl) (pv 3) (pv 4) (fun _ _ => rfl)))) pa_nil))))))))
      (pss_one (ps_ret pe_bl)))), ?_⟩
    refine ⟨_, rfl, by show 1 ≤ sizeLine; decide, fun L hL => ?_⟩
    have N0 : Exq.sizeOfEx d ≤ 100000 := Nat.le_trans (size_wt d) hw
    refine ⟨fun m σ H2 => ∃ (vs : List V) (ds : List PyData) (v3 v4 : Option V), σ = [some v, some .non, some (.ref L), v3, v4] ∧ H2 L = some (.lst vs) ∧ DxAll K H vs ds ∧ (∀ d ∈ ds, wt d ≤ 100000) ∧ (ds.all exD = exD d) ∧ Same H H2 ∧ (ds.map Exq.sizeOfEx).sum = m ∧ m ≤ Exq.sizeOfEx d,
      ⟨_, [v], [d], none, none, rfl, upd_same, .cons hd .nil, fun e he => by rw [List.mem_singleton.mp he]; exact hw, by simp, snew hL, rfl, by simp⟩, ?_⟩
    rintro m σ H2 ⟨vs, ds, v3, v4, rfl, hL2, hA, hW, hE, sH, rfl, hm⟩
    refine ⟨_, rfl, _, .inl ⟨vs, SqL.of hL2, rfl⟩, ?_⟩
    rcases List.eq_nil_or_concat vs with rfl | ⟨us, u, rfl⟩
    · -- nothing is left
      have e0 := DxAll.len hA
      have : ds = [] := List.length_eq_zero_iff.mp e0.symm
      subst this
      refine iteF ?_
      have := k H2 sH
      rw [← hE] at this
      exact this
    · obtain ⟨es, x, rfl⟩ : ∃ es x, ds = es ++ [x] := by
        have e0 := DxAll.len hA
        rcases List.eq_nil_or_concat ds with rfl | ⟨es, x, rfl⟩
        · simp at e0
        · exact ⟨es, x, List.concat_eq_append ..⟩
      rw [List.concat_eq_append] at hA hL2
      obtain ⟨us', ws, e1, hA1, hA2⟩ := DxAll.split hA
      obtain ⟨w1, e2⟩ : ∃ w1, ws = [w1] := by
        cases hA2 with
        | cons a r => cases r; exact ⟨_, rfl⟩
      subst e2
      obtain ⟨rfl, e3⟩ := List.append_inj' e1 rfl
      cases e3
      have hx : Dx K H u x := by
        cases hA2 with
        | cons a r => exact a
      have wx := hW x (List.mem_append_right _ (List.mem_singleton.mpr rfl))
      rw [List.concat_eq_append]
      have he : (!(us ++ [u]).isEmpty) = true := by simp
      rw [he]
      refine iteT ?_
      refine ⟨fun σ' H' => ∃ m', m' < _ ∧ _, fun _ _ h => h, ?_⟩
      refine ⟨_, rfl, .inl ⟨rfl, _, SqL.of hL2⟩, L, us ++ [u], u, rfl, rfl, hL2, by simp, ?_⟩
      have s3 : Same H (upd H2 L (.lst (us ++ [u]).dropLast)) := upd_same_new sH hL
      have hL3 : (upd H2 L (.lst (us ++ [u]).dropLast)) L = some (.lst us) := by rw [upd_same, List.dropLast_concat]
      generalize upd H2 L (.lst (us ++ [u]).dropLast) = H3 at *
      refine ⟨_, rfl, _, rfl, iteF (iteF ?_)⟩
      refine ⟨_, rfl, u, x, rfl, dxSame s3 _ _ hx, wx, fun H4 s4 => ⟨_, rfl, ?_⟩⟩
      have s04 := s3.trans s4
      have hL4 := s4 _ _ hL3
      rw [all_snoc] at hE
      rw [List.map_append, List.sum_append] at hm
      simp only [List.map_cons, List.map_nil, List.sum_cons, List.sum_nil, Nat.add_zero] at hm
      cases cn : nodeD x with
      | false =>
        refine iteT ?_
        have := k H4 s04
        rw [← hE, node_else cn, Bool.and_false] at this
        exact this
      | true =>
        refine iteF ?_
        obtain ⟨h, r, rfl, ok⟩ := node_is cn
        obtain ⟨km, kb⟩ := kids_map ok
        obtain ⟨a, xs, rfl, t⟩ := hx.tupD
        have t4 := t.same s04
        have hl : xs.length = r.length + 1 := by rw [t.len, List.length_cons]
        refine ⟨_, rfl, .inl ⟨rfl, _, SqL.of hL4⟩, _, rfl, _, h, r, rfl, t4.dx, fun b H5 s5 hb => ⟨b, rfl, ⟨_, hb⟩, fun Dn hDn => ?_⟩⟩
        have s05 := s04.trans s5
        have hL5 := s5 _ _ hL4
        have t5 := t4.same s5
        refine lc_it (walk_tup (K := K) (a := b) (xs := (kidsAt h).map fun (i : Nat) => V.int i)) (fun i Hc => Hc Dn = some (.lst (((kidsAt h).take i).map fun i => xs.getD i .non)) ∧ Same H5 Hc) ⟨upd_same, snew hDn⟩ (fun i Hc _ q => Dx.sameT q.2 hb) ?_ ?_
        · rintro i v Hc Hc' hi ⟨q1, q2⟩ ⟨rfl, hv⟩
          obtain ⟨j, hj, rfl⟩ := map_at hv
          have lj : j < xs.length := by rw [hl]; exact kb j (List.mem_of_getElem? hj)
          refine ⟨rfl, yes_if ⟨_, rfl, _, rfl, a, xs, j, xs.getD j .non, rfl, rfl, (t5.same q2).at_, getD_at lj, _, q1, ?_, ?_, upd_same_new q2 hDn⟩⟩
          · refine small1000 ?_
            have := kidsAt_len h
            rw [List.length_map, List.length_take]
            omega
          · rw [upd_same, take_map_succ hj]
        · rintro Hc ⟨q1, q2⟩
          rw [List.length_map, List.take_length] at q1
          have zl := kidsAt_len h
          have el := len_sum es
          have ul := DxAll.len hA1
          refine ⟨L, Dn, _, _, rfl, rfl, q2 _ _ hL5, q1, ?_, ?_⟩
          · rw [List.length_map, sizeLine_eq]
            omega
          · have sz : Exq.sizeOfEx (.tuple (.str h :: r)) = 1 + ((Exq.kids h r).map Exq.sizeOfEx).sum := Exq.sizeOfEx_node h r
            refine ⟨_, ?_, _, es ++ Exq.kids h r, _, _, rfl, upd_same, DxAll.app hA1 ?_, ?_, ?_, upd_same_new (s05.trans q2) hL, rfl, ?_⟩
            · simp only [List.map_append, List.sum_append, List.map_cons, List.map_nil, List.sum_cons, List.sum_nil]
              omega
            · rw [km]
              exact dxA_map t.all _ fun i hi => by rw [List.length_cons]; exact kb i hi
            · intro e he
              rcases List.mem_append.mp he with he | he
              · exact hW e (List.mem_append_left _ he)
              · have := wtA_mem (Exq.kids_mem he)
                simp only [wt, wtA] at wx
                omega
            · rw [List.all_append, ← hE]
              congr 1
              show _ = Exq.exOk nmD _
              rw [Exq.exOk_node, ok, Bool.true_and]
            · simp only [List.map_append, List.sum_append]
              omega
end
end Any
set_option Elab.async false
set_option linter.all false
set_option maxRecDepth 100000
set_option maxHeartbeats 4000000
/-! t[::-1]. -/
namespace Any
open PySem PySem.Spec PyProof.Rows L2 RT HT
theorem adjust_rev (n : Nat) : Builtin.Slice.sliceAdjust none none (-1) (n : Int) = ((n : Int) - 1, -1) := rfl
theorem places_rev (n : Nat) : Builtin.Slice.slicePlaces ((n : Int) - 1) (-1) (-1) = n := by
  unfold Builtin.Slice.slicePlaces
  rw [if_neg (by omega)]
  by_cases h : n = 0
  · subst h
    rfl
  · rw [if_pos (by omega), show -(-1 : Int) = 1 from rfl, Int.ediv_one]
    omega
theorem fm_get (l : List Value) (f : Nat → Option Value) (h : ∀ m, m < l.length → f m = l[m]?) : (List.range l.length).filterMap f = l := by
  have go : ∀ n, n ≤ l.length → (List.range n).filterMap f = l.take n := by
    intro n
    induction n with
    | zero => exact fun _ => rfl
    | succ n ih =>
      intro hn
      rw [List.range_succ, List.filterMap_append, ih (by omega), List.take_succ]
      have := h n (by omega)
      rw [List.getElem?_eq_getElem (by omega)] at this ⊢
      simp [this]
  rw [go _ (Nat.le_refl _), List.take_length]
theorem pick_rev (xs : Array Value) : ((List.range xs.size).filterMap fun (m : Nat) => xs[(((xs.size : Int) - 1) + (m : Int) * (-1)).toNat]?).toArray = xs.toList.reverse.toArray := by
  have n1 : xs.size = xs.toList.reverse.length := by simp
  have := fm_get xs.toList.reverse (fun (m : Nat) => xs[(((xs.size : Int) - 1) + (m : Int) * (-1)).toNat]?) fun m lt => by
    have lt2 : m < xs.size := by rw [n1]; exact lt
    have e : (((xs.size : Int) - 1) + (m : Int) * (-1)).toNat = xs.size - 1 - m := by omega
    rw [e, List.getElem?_eq_getElem lt, List.getElem_reverse, Array.getElem?_eq_getElem (by omega)]
    simp
  rw [← n1] at this
  rw [this]
section
variable {prog : Program} {w : World} {A : Around} {E : Value → Shared → Prop} {s : Shared}
theorem applied_rev {sl : Addr} {vl vu vs : Value} {n : Nat} {Q : Int × Int × Nat → Shared → Prop} (hs : s.heap.IsSliceOf sl vl vu vs) (pl : IsPart vl none) (pu : IsPart vu none) (ps : IsPart vs (some (-1))) (h : Q ((n : Int) - 1, -1, n) s) :
    wpAny (model prog w) A (Builtin.Slice.sliceApplied (.ref sl) (pure (n : Int))) Q E s := by
  obtain ⟨os, hos, hcs, hds⟩ := id hs
  unfold Builtin.Slice.sliceApplied Builtin.Slice.sliceFields
  refine wpAny_bind (wpAny_bind (wpAny_field hos hds (x := vl) rfl (wpAny_bind (wpAny_field hos hds (x := vu) rfl (wpAny_bind (wpAny_field hos hds (x := vs) rfl (wpAny_pure ?_)))))))
  refine wpAny_bind (slicePart_ ps ?_)
  show wpAny _ _ (if ((-1 : Int) == 0) = true then _ else _) _ _ s
  rw [if_neg (by decide)]
  refine wpAny_bind (slicePart_ pl (wpAny_bind (slicePart_ pu (wpAny_bind (wpAny_pure ?_)))))
  show wpAny _ _ (pure ((n : Int) - 1, (-1 : Int), Builtin.Slice.slicePlaces ((n : Int) - 1) (-1) (-1))) _ _ s
  rw [places_rev]
  exact wpAny_pure h
theorem tuple_rev {t sl : Addr} {items : Array Value} {vl vu vs : Value} {Q : Value → Shared → Prop} (ht : IsTup s.heap t items) (hs : s.heap.IsSliceOf sl vl vu vs) (pl : IsPart vl none) (pu : IsPart vu none) (ps : IsPart vs (some (-1)))
    (h : Q (.ref s.heap.objs.size) { s with heap := s.heap.push { cls := .type "tuple", data := .seq items.toList.reverse.toArray } }) (hsz : items.size ≤ sizeLine) :
    wpAny (model prog w) A (getItem (.ref t) (.ref sl)) Q E s := by
  have small : sizeOk (.seq items.toList.reverse.toArray) := by
    show items.toList.reverse.toArray.size ≤ sizeLine
    simpa using hsz
  obtain ⟨os, hos, hcs, hds⟩ := id hs
  unfold getItem
  try with_reducible refine wpAny_holding ?_
  first | refine wpAny_bind (wpAny_pure ?_) | skip
  refine wpAny_bind (wpAny_sequenceKey ht.typeIs (by decide) ?_)
  refine wpAny_bind (wpAny_callSpecial?_slot (name := Str.ofString "__getitem__") ht.typeIs PyProof.Rows.slot_tuple_getitem (wpAny_call_entry PyProof.Rows.slot_tuple_getitem ht.typeIs entry_tuple_getitem ?_ (args_tuple_getitem _ _)))
  show wpAny _ _ (Builtin.Tuple.tupleItemsOf (.ref t) >>= _) _ _ s
  refine wpAny_bind (tupleItemsOf_ ht (wpAny_bind (wpAny_typeOf (show s.TypeIs (.ref sl) "slice" from ⟨os, hos, hcs⟩) ?_)))
  rw [if_pos (by decide)]
  refine wpAny_bind (applied_rev (n := items.size) hs pl pu ps ?_)
  show wpAny _ _ (if (((items.size : Int) - 1) == 0 && (-1 : Int) == 1 && items.size == items.size) = true then _ else _) _ _ s
  rw [if_neg (by simp), pick_rev]
  first
    | exact wpAny_bind (m := Builtin.Tuple.tupleExact _) (wpAny_newObj_type (wpAny_pure ⟨_, rfl, wpAny_pure h⟩) small)
    | exact wpAny_bind (wpAny_bind (m := Builtin.Tuple.tupleExact _) (wpAny_newObj_type (wpAny_pure ⟨_, rfl, wpAny_pure h⟩) small))
end
/-- t[::-1] -/
def tRevT (K : PySem.W.Frag) (te : TE) : TE := fun σ H Q => te σ H fun x H1 => ∃ a xs, x = .ref a ∧ SqT K H1 a xs ∧ ∀ p, H1 p = none → Q (.ref p) (upd H1 p (.tup xs.reverse))
theorem pe_revT {X : Cx} {e : Expr} {te : TE} {k : Nat} {p1 p2 p3 pos : Pos} (he : PE X e te) : PE X (.Subscript e (.Slice none none (some (.UnaryOp .USub (.Constant (.int 1) k p1) p2)) p3) pos) (tRevT X.K te) := by
  refine ⟨fun pins s σ H Q I h => Subscript_ (thn (he.run pins s σ H _ I h) fun v s1 ⟨x, H1, I1, r1, a, xs, ex, hx, q⟩ => ?_)⟩
  subst ex
  cases r1
  have minus : PO X (some (.UnaryOp .USub (.Constant (.int 1) k p1) p2)) (tPart (tUn (rU fun i => .int (-i)) (tC (.int 1)))) := po_some (pe_un un_neg pe_int)
  refine wpAny_Slice (thn (po_none.run pins s1 σ H1 (fun o H2 => o = none ∧ H2 = H1) I1 ⟨rfl, rfl⟩) fun vl s2 ⟨l, H2, I2, pl, el, e2⟩ => thn (po_none.run pins s2 σ H2 (fun o H3 => o = none ∧ H3 = H2) I2 ⟨rfl, rfl⟩) fun vu s3 ⟨u, H3, I3, pu, eu, e3⟩ =>
    thn (minus.run pins s3 σ H3 (fun o H4 => o = some (-1) ∧ H4 = H3) I3 ⟨1, rfl, -1, rfl, rfl, rfl⟩) fun vs s4 ⟨o, H4, I4, ps, eo, e4⟩ => ?_)
  subst el e2 eu e3 eo e4
  have I5 : Inv X pins σ H4 { s4 with heap := s4.heap.push { cls := .type "slice", data := .fields #[vl, vu, vs] } } := I4.kept (t' := s4.toks) fun b ob q => Heap.get?_push_of_some _ q
  obtain ⟨its, r, ht, hz⟩ := I5.tuple hx
  have hlen := r.length
  show wpAny (model X.prog X.w) X.A (subscriptTail e (.Slice none none (some (.UnaryOp .USub (.Constant (.int 1) k p1) p2)) p3) (.ref a) (.ref s4.heap.objs.size)) (EP X pins σ Q) X.xe { s4 with heap := s4.heap.push { cls := .type "slice", data := .fields #[vl, vu, vs] } }
  refine tail_any (ops := [.ref a, .ref s4.heap.objs.size]) ht.typeIs PyProof.Rows.slot_tuple_getitem.lookup ?_ (by with_unfolding_all rfl)
  refine tuple_rev ht (Heap.IsSliceOf.new _ vl vu vs) pl pu ps ?_ (by rw [List.size_toArray]; omega)
  refine ⟨.ref _, _, I5.laid (t' := s4.toks) (o := .tup xs.reverse) (fun b ob q => Heap.get?_push_of_some _ q) (Nat.le_refl _) ?_, rfl, q _ (I5.hok.fresh (Nat.le_refl _))⟩
  exact ⟨by rw [List.length_reverse]; exact hz, its.reverse, r.reverse, IsTup.new _ _⟩
end Any
set_option Elab.async false
set_option linter.all false
set_option maxRecDepth 100000
set_option maxHeartbeats 4000000
/-! nodes_of: the nodes with their paths, one ahead of its parts. -/
namespace Any
open PySem PySem.Spec PyProof.Rows L2 RT
open He (ga ma)
/-! ### the mathematics -/
def nodesN : Nat → List Nat → PyData → List (List Nat × PyData)
  | 0, p, d => [(p, d)]
  | n + 1, p, .tuple (.str h :: r) => (p, .tuple (.str h :: r)) :: (kidsAt h).flatMap fun i => nodesN n (p ++ [i]) ((PyData.str h :: r).getD i .none)
  | _ + 1, p, d => [(p, d)]
theorem depth_tup (ds : List PyData) : (PyData.tuple ds).depth = PyData.depthAll ds + 1 := rfl
theorem depth_getD (ds : List PyData) (i : Nat) : (ds.getD i .none).depth ≤ PyData.depthAll ds := by
  rw [List.getD_eq_getElem?_getD]
  cases e : ds[i]? with
  | none => exact Nat.zero_le _
  | some x => exact Exq.depth_mem (List.mem_of_getElem? e)
theorem nodesN_else {n : Nat} {p : List Nat} {d : PyData} (h : ∀ x r, d ≠ .tuple (.str x :: r)) : nodesN n p d = [(p, d)] := by
  cases n with
  | zero => rfl
  | succ n =>
    unfold nodesN
    split
    · rename_i e
      cases e
    · exact absurd rfl (h _ _)
    · rfl
theorem nodesN_more : ∀ (n m : Nat) (p : List Nat) (d : PyData), d.depth < n → d.depth < m → nodesN n p d = nodesN m p d
  | 0, _, _, _, h, _ => absurd h (Nat.not_lt_zero _)
  | _, 0, _, _, _, h => absurd h (Nat.not_lt_zero _)
  | n + 1, m + 1, p, d, hn, hm => by
    by_cases hd : ∃ h r, d = .tuple (.str h :: r)
    · obtain ⟨h, r, rfl⟩ := hd
      rw [depth_tup] at hn hm
      show _ :: _ = _ :: _
      congr 1
      have : ∀ i, nodesN n (p ++ [i]) ((PyData.str h :: r).getD i .none) = nodesN m (p ++ [i]) ((PyData.str h :: r).getD i .none) := fun i => by
        have := depth_getD (PyData.str h :: r) i
        exact nodesN_more n m _ _ (by omega) (by omega)
      simp only [this]
    · rw [nodesN_else fun x r e => hd ⟨x, r, e⟩, nodesN_else fun x r e => hd ⟨x, r, e⟩]
def nodesL (p : List Nat) (d : PyData) : List (List Nat × PyData) := nodesN (d.depth + 1) p d
theorem nodesL_node (p : List Nat) (h : Str) (r : List PyData) : nodesL p (.tuple (.str h :: r)) = (p, .tuple (.str h :: r)) :: (kidsAt h).flatMap fun i => nodesL (p ++ [i]) ((PyData.str h :: r).getD i .none) := by
  unfold nodesL
  rw [depth_tup]
  show _ :: _ = _ :: _
  congr 1
  have : ∀ i, nodesN (PyData.depthAll (PyData.str h :: r) + 1) (p ++ [i]) ((PyData.str h :: r).getD i .none) = nodesN (((PyData.str h :: r).getD i .none).depth + 1) (p ++ [i]) ((PyData.str h :: r).getD i .none) := fun i => by
    have := depth_getD (PyData.str h :: r) i
    exact nodesN_more _ _ _ _ (by omega) (by omega)
  simp only [this]
def pathD (p : List Nat) : PyData := .tuple (p.map fun (i : Nat) => PyData.int i)
def entD (e : List Nat × PyData) : PyData := .tuple [pathD e.1, e.2]
def nodesD (d : PyData) : List PyData := (nodesL [] d).map entD
theorem ex_node {d : PyData} (h : exD d = true) : ∃ x r, d = .tuple (.str x :: r) ∧ Exq.nodeOk nmD x r = true ∧ ∀ i ∈ kidsAt x, i < r.length + 1 ∧ exD ((PyData.str x :: r).getD i .none) = true := by
  rcases Exq.headed d with ⟨x, r, rfl⟩ | no
  · have h : Exq.exOk nmD _ = true := h
    rw [Exq.exOk_node, Bool.and_eq_true] at h
    obtain ⟨h1, h2⟩ := h
    obtain ⟨km, kb⟩ := kids_map h1
    refine ⟨x, r, rfl, h1, fun i hi => ⟨kb i hi, ?_⟩⟩
    rw [km] at h2
    exact List.all_eq_true.mp h2 _ (List.mem_map.mpr ⟨i, hi, rfl⟩)
  · have : exD d = false := no nmD _
    rw [h] at this
    cases this
theorem size_kids {x : Str} {r : List PyData} (ok : Exq.nodeOk nmD x r = true) : Exq.sizeOfEx (.tuple (.str x :: r)) = 1 + ((kidsAt x).map fun i => Exq.sizeOfEx ((PyData.str x :: r).getD i .none)).sum := by
  rw [Exq.sizeOfEx_node, (kids_map ok).1, List.map_map]
  rfl
/-! ### tuples of data put together -/
theorem cat_d {K : PySem.W.Frag} {H : Hp} {a b : Addr} {xs ys : List V} {ds es : List PyData} {Q : VK} (t : TupD K H a xs ds) (u : TupD K H b ys es) (small : ds.length + es.length ≤ 1000000)
    (k : ∀ p zs H', Same H H' → TupD K H' p zs (ds ++ es) → Q (.ref p) H') : rCatA K (.ref a) (.ref b) H Q := by
  have l1 := t.len
  have l2 := u.len
  refine ⟨a, b, xs, ys, rfl, rfl, t.at_, u.at_, by rw [sizeLine_eq]; omega, fun e => ?_, fun _ e => ?_, fun _ _ p hp => ?_⟩
  · have : ds = [] := List.length_eq_zero_iff.mp (by rw [← l1, e]; rfl)
    subst this
    exact k b ys H rsame u
  · have : es = [] := List.length_eq_zero_iff.mp (by rw [← l2, e]; rfl)
    subst this
    rw [List.append_nil] at k
    exact k a xs H rsame t
  · exact k p (xs ++ ys) _ (snew hp) ⟨SqT.of upd_same, dxSameA (snew hp) _ _ (DxAll.app t.all u.all)⟩
/-- a new tuple of data -/
theorem TupD.new {K : PySem.W.Frag} {H : Hp} {p : Addr} {xs : List V} {ds : List PyData} (hp : H p = none) (h : DxAll K H xs ds) : TupD K (upd H p (.tup xs)) p xs ds := ⟨SqT.of upd_same, dxSameA (snew hp) _ _ h⟩
theorem hid_new {S : List Addr} {H : Hp} {b : Addr} {o : HO} (h : H b = none) (n : b ∉ S) : hidS S (upd H b o) = upd (hidS S H) b o := by
  funext c
  by_cases hc : c ∈ S
  · rw [hid_in hc, upd_ne (fun z => n (by rw [← z]; exact hc)), hid_in hc]
  · rw [hid_out hc]
    by_cases z : c = b
    · rw [z, upd_same, upd_same]
    · rw [upd_ne z, upd_ne z, hid_out hc]
/-- what is hidden is there -/
def Live (S : List Addr) (H : Hp) : Prop := ∀ c ∈ S, H c ≠ none
theorem Live.same {S : List Addr} {H H' : Hp} (l : Live S H) (s : Same H H') : Live S H' := fun c hc e => by
  cases q : H c with
  | none => exact l c hc q
  | some o =>
    rw [s c o q] at e
    cases e
theorem Live.upd {S : List Addr} {H : Hp} (l : Live S H) {b : Addr} {o : HO} : Live S (upd H b o) := fun c hc e => by
  by_cases z : c = b
  · rw [z, upd_same] at e
    cases e
  · rw [upd_ne z] at e
    exact l c hc e
theorem Live.out {S : List Addr} {H : Hp} (l : Live S H) {b : Addr} (h : H b = none) : b ∉ S := fun m => l b m h
theorem newH {K : PySem.W.Frag} {S : List Addr} {H : Hp} {p : Addr} {xs : List V} {ds : List PyData} (l : Live S H) (hp : H p = none) (h : DxAll K (hidS S H) xs ds) : TupD K (hidS S (upd H p (.tup xs))) p xs ds := by
  rw [hid_new hp (l.out hp)]
  exact TupD.new (by rw [hid_out (l.out hp)]; exact hp) h
theorem same_hid {S : List Addr} {H H' : Hp} (s : Same H H') (n : ∀ b ∈ S, H b = none) : Same H (hidS S H') := fun b o e => hid_of (fun m => by rw [n b m] at e; cases e) (s b o e)
theorem hid_at {K : PySem.W.Frag} {S : List Addr} {H : Hp} {b : Addr} {xs : List V} (h : SqT K H b xs) (l : ∀ c ∈ S, ∃ l, H c = some (.lst l)) : SqT K (hidS S H) b xs := by
  rcases h with (h | ⟨o, h⟩) | h
  · refine .inl (.inl (hid_of (fun m => ?_) h))
    obtain ⟨l, e⟩ := l b m
    rw [h] at e
    cases e
  · refine .inl (.inr ⟨o, hid_of (fun m => ?_) h⟩)
    obtain ⟨l, e⟩ := l b m
    rw [h] at e
    cases e
  · exact .inr h
theorem cat_h {K : PySem.W.Frag} {S : List Addr} {H : Hp} {a b : Addr} {xs ys : List V} {ds es : List PyData} {Q : VK} (l : Live S H) (t : TupD K (hidS S H) a xs ds) (u : TupD K (hidS S H) b ys es) (small : ds.length + es.length ≤ 1000000)
    (k : ∀ p zs H', Same H H' → TupD K (hidS S H') p zs (ds ++ es) → Q (.ref p) H') : rCatA K (.ref a) (.ref b) H Q := by
  have l1 := t.len
  have l2 := u.len
  refine ⟨a, b, xs, ys, rfl, rfl, Dx.sameT hid_same t.at_, Dx.sameT hid_same u.at_, by rw [sizeLine_eq]; omega, fun e => ?_, fun _ e => ?_, fun _ _ p hp => ?_⟩
  · have : ds = [] := List.length_eq_zero_iff.mp (by rw [← l1, e]; rfl)
    subst this
    exact k b ys H rsame u
  · have : es = [] := List.length_eq_zero_iff.mp (by rw [← l2, e]; rfl)
    subst this
    rw [List.append_nil] at k
    exact k a xs H rsame t
  · exact k p (xs ++ ys) _ (snew hp) (newH l hp (DxAll.app t.all u.all))
theorem Fr.tupD {K : PySem.W.Frag} {S : List Addr} {H H' : Hp} (f : Fr S H H') {a : Addr} {xs : List V} {ds : List PyData} (t : TupD K (hidS S H) a xs ds) : TupD K (hidS S H') a xs ds := t.same f
theorem path_snoc (p : List Nat) (j : Nat) : (p.map fun (i : Nat) => PyData.int i) ++ [PyData.int j] = (p ++ [j]).map fun (i : Nat) => PyData.int i := by
  rw [List.map_append]
  rfl
def sumE (ps : List (List Nat × PyData)) : Nat := (ps.map fun e => Exq.sizeOfEx e.2).sum
theorem sumE_app (ps qs : List (List Nat × PyData)) : sumE (ps ++ qs) = sumE ps + sumE qs := by
  unfold sumE
  rw [List.map_append, List.sum_append]
theorem len_sumE : ∀ ps : List (List Nat × PyData), ps.length ≤ sumE ps
  | [] => Nat.le_refl _
  | e :: ps => by
    have h1 := Exq.sizeOfEx_pos e.2
    have h2 := len_sumE ps
    unfold sumE at *
    simp only [List.map_cons, List.sum_cons, List.length_cons]
    omega
theorem sum_rev (f : Nat → Nat) : ∀ l : List Nat, (l.reverse.map f).sum = (l.map f).sum
  | [] => rfl
  | x :: l => by
    have := sum_rev f l
    rw [List.reverse_cons, List.map_append, List.sum_append, this]
    simp only [List.map_cons, List.map_nil, List.sum_cons, List.sum_nil]
    omega
theorem sumE_kids {p : List Nat} {g : Nat → PyData} {ks : List Nat} : sumE (ks.reverse.map fun j => (p ++ [j], g j)) = (ks.map fun j => Exq.sizeOfEx (g j)).sum := by
  unfold sumE
  rw [List.map_map]
  exact sum_rev (fun j => Exq.sizeOfEx (g j)) ks
def spNodes (K : PySem.W.Frag) : Sp := fun vs H Q _ => ∃ v d, vs = [v] ∧ Dx K H v d ∧ exD d = true ∧ wt d ≤ 100000 ∧ d.depth ≤ 1000 ∧ ∀ p xs H', H p = none → Same H H' → H' p = some (.lst xs) → DxAll K H' xs (nodesD d) → Q (.ref p) H'
section
variable {P : Program} {w : World} {K : PySem.W.Frag} {mg : Str → Option Value} {base : Heap}
theorem scNodesOf : FnScope ["expression", "found", "pending", "pair", "path", "node", "at"] ["expression"] (defScope sNodesOf) := ⟨rfl, rfl, rfl, by decide +kernel, rfl, by decide +kernel, by decide +kernel⟩
theorem hNodesOf (D : DS K mg) (T : TF mg) (W : TT K w mg) : Has P w K mg base CX0 "nodes_of" sNodesOf ["expression"] 2 (spNodes K) := by
  obtain ⟨kes, kn, kd⟩ := W.chiT.kd
  refine Has.mk0 D.aNodesOf scNodesOf (fun _ _ _ _ _ _ us hl => match us, hl with | [_], _ => rfl) (fun vs H Q E h => ?_) (fun cdv A outer s H vs Q E hr h => ?_)
  · obtain ⟨v, d, rfl, _⟩ := h
    rfl
  · obtain ⟨v, d, rfl, hd, hex, hw, hdep, k⟩ := h
    refine ⟨_, (pss_cons (ps_set (i := 1) scNodesOf.nd rfl (Or.inl rfl) (pe_lst pa_nil))
      (pss_cons (ps_set (i := 2) scNodesOf.nd rfl (Or.inl rfl) (pe_lst (pa_cons (pe_tup (pa_cons (pe_tup pa_nil) (pa_cons (pv 0) pa_nil))) pa_nil)))
      (pss_cons (ps_while PassesOwn.never (pt_truth (pv 2) (by intro _; rfl))
        (pss_cons (ps_set (i := 3) scNodesOf.nd rfl (Or.inl rfl) (pe_bm0 PySem.F.plainAttrs_list PySem.F.slot_list_pop PySem.F.type_list_pop mt_pop (pv 2)))
        (pss_cons (ps_expr (pe_bm PySem.F.plainAttrs_list PySem.F.slot_list_append PySem.F.type_list_append mt_append (pv 1) (pa_cons (pv 3) pa_nil)))
        (pss_cons (ps_asg (pv 3) (pg_tup rfl (pgs_cons (pg_name (i := 4) scNodesOf.nd rfl (Or.inl rfl)) (pgs_cons (pg_name (i := 5) scNodesOf.nd rfl (Or.inl rfl)) pgs_nil))))
        (pss_one (ps_for PassesOwn.never rfl (pi_tup (pe_revT (pe_kget kd (pe_glob (v := .ref (ga K "CHILDREN")) (by rfl) W.chi rfl) (pe_ix ix_tup (pv 5) pe_int (fun _ _ => rfl)) (pe_tup pa_nil) ⟨rfl, rfl, rfl, rfl⟩))) (pg_name (i := 6) scNodesOf.nd rfl (Or.inl rfl))
          (pss_one (ps_expr (pe_bm PySem.F.plainAttrs_list PySem.F.slot_list_append PySem.F.type_list_append mt_append (pv 2) (pa_cons (pe_tup (pa_cons (pe_op op_catA (pv 4) (pe_tup (pa_cons (pv 6) pa_nil))) (pa_cons (pe_ix ix_tup (pv 5) (pv 6) (fun _ _ => rfl)) pa_nil))) pa_nil))))))))))
      (pss_one (ps_ret (pv 1)))))), ?_⟩
    refine ⟨by show 0 ≤ sizeLine; exact Nat.zero_le _, fun F hF => ?_⟩
    refine ⟨by show 0 ≤ sizeLine; exact Nat.zero_le _, fun p0 hp0 => ⟨_, rfl, by show 2 ≤ sizeLine; decide, fun t0 ht0 => ⟨by show 1 ≤ sizeLine; decide, fun L hL => ?_⟩⟩⟩
    have FL : F ≠ L := fun e => by
      rw [← e, upd_ne (ne_of_none (H := upd (upd H F (.lst [])) p0 (.tup [])) (by rw [upd_ne (ne_of_none (H := upd H F (.lst [])) upd_same hp0)]; exact upd_same) ht0), upd_ne (ne_of_none (H := upd H F (.lst [])) upd_same hp0), upd_same] at hL
      cases hL
    have a1 : Same H (upd H F (.lst [])) := snew hF
    have b1 : (upd H F (.lst [])) F = some (.lst []) := upd_same
    generalize upd H F (.lst []) = H1 at *
    have a2 : Same H1 (upd H1 p0 (.tup [])) := snew hp0
    have b2 : (upd H1 p0 (.tup [])) p0 = some (.tup []) := upd_same
    generalize upd H1 p0 (.tup []) = H2 at *
    have a3 : Same H2 (upd H2 t0 (.tup [.ref p0, v])) := snew ht0
    have b3 : (upd H2 t0 (.tup [.ref p0, v])) t0 = some (.tup [.ref p0, v]) := upd_same
    generalize upd H2 t0 (.tup [.ref p0, v]) = H3 at *
    have a4 : Same H3 (upd H3 L (.lst [.ref t0])) := snew hL
    have b4 : (upd H3 L (.lst [.ref t0])) L = some (.lst [.ref t0]) := upd_same
    have hLn : H L = none := (a1.trans (a2.trans a3)).free hL
    have c1 : (upd H3 L (.lst [.ref t0])) F = some (.lst []) := a4 _ _ (a3 _ _ (a2 _ _ b1))
    have c2 : (upd H3 L (.lst [.ref t0])) p0 = some (.tup []) := a4 _ _ (a3 _ _ b2)
    have c3 : (upd H3 L (.lst [.ref t0])) t0 = some (.tup [.ref p0, v]) := a4 _ _ b3
    have sH : Same H (upd H3 L (.lst [.ref t0])) := a1.trans (a2.trans (a3.trans a4))
    generalize upd H3 L (.lst [.ref t0]) = H4 at *
    have notS : ∀ {b : Addr} {xs : List V}, H4 b = some (.tup xs) → b ∉ [F, L] := fun {b xs} e m => by
      simp only [List.mem_cons, List.not_mem_nil, or_false] at m
      rcases m with rfl | rfl
      · rw [c1] at e
        cases e
      · rw [b4] at e
        cases e
    have hn : ∀ b ∈ [F, L], H b = none := fun b m => by
      simp only [List.mem_cons, List.not_mem_nil, or_false] at m
      rcases m with rfl | rfl
      · exact hF
      · exact hLn
    have N0 : Exq.sizeOfEx d ≤ 100000 := Nat.le_trans (size_wt d) hw
    refine ⟨fun m σ H2 => ∃ (fv pv : List V) (fs ps : List (List Nat × PyData)) (v3 v4 v5 v6 : Option V), σ = [some v, some (.ref F), some (.ref L), v3, v4, v5, v6] ∧ H2 F = some (.lst fv) ∧ H2 L = some (.lst pv) ∧ DxAll K (hidS [F, L] H2) fv (fs.map entD) ∧ DxAll K (hidS [F, L] H2) pv (ps.map entD) ∧
      Same H H2 ∧ (∀ e ∈ ps, exD e.2 = true ∧ e.1.length + e.2.depth ≤ d.depth) ∧ fs ++ ps.reverse.flatMap (fun e => nodesL e.1 e.2) = nodesL [] d ∧ sumE ps = m ∧ fs.length + m ≤ Exq.sizeOfEx d,
      ⟨_, [], [.ref t0], [], [([], d)], none, none, none, none, rfl, c1, b4, .nil, .cons (.tup (SqT.of (hid_of (notS c3) c3)) (.cons (.tup (SqT.of (hid_of (notS c2) c2)) .nil) (.cons (dxSame (same_hid sH hn) _ _ hd) .nil))) .nil, sH, fun e he => by rw [List.mem_singleton.mp he]; exact ⟨hex, by simp⟩, by simp, rfl, by simp [sumE]⟩, ?_⟩
    clear c1 c2 c3 notS sH b4 a4 a3 a2 a1 b1 b2 b3
    clear hp0 ht0 hL
    rintro m σ H2 ⟨fv, pv, fs, ps, v3, v4, v5, v6, rfl, hF2, hL2, hfA, hpA, sH, hE, hcat, rfl, hm⟩
    refine ⟨_, rfl, _, .inl ⟨pv, SqL.of hL2, rfl⟩, ?_⟩
    rcases List.eq_nil_or_concat ps with rfl | ⟨qs, e, rfl⟩
    · have : pv = [] := List.length_eq_zero_iff.mp (DxAll.len hpA)
      subst this
      refine iteF ?_
      refine ⟨_, rfl, ?_⟩
      simp only [List.reverse_nil, List.flatMap_nil, List.append_nil] at hcat
      have := k F fv H2 hF sH hF2 (by rw [nodesD, ← hcat]; exact hfA.unhid)
      exact this
    · rw [List.concat_eq_append] at *
      obtain ⟨p, x⟩ := e
      rw [List.map_append] at hpA
      obtain ⟨us, ws, rfl, hA1, hA2⟩ := DxAll.split hpA
      obtain ⟨u, rfl, hu⟩ : ∃ u, ws = [u] ∧ Dx K (hidS [F, L] H2) u (entD (p, x)) := by
        cases hA2 with
        | cons a r => cases r; exact ⟨_, rfl, a⟩
      obtain ⟨hex', hdx⟩ := hE (p, x) (List.mem_append_right _ (List.mem_singleton.mpr rfl))
      have hpl : p.length + x.depth ≤ d.depth := hdx
      have hEq : ∀ e ∈ qs, exD e.2 = true ∧ e.1.length + e.2.depth ≤ d.depth := fun e he => hE e (List.mem_append_left _ he)
      rw [sumE_app] at hm
      have hsx : sumE [(p, x)] = Exq.sizeOfEx x := by simp [sumE]
      rw [hsx] at hm
      rw [List.reverse_append, List.reverse_singleton, List.singleton_append, List.flatMap_cons] at hcat
      obtain ⟨h, r, rfl, ok, kid⟩ := ex_node hex'
      have kb : ∀ i ∈ kidsAt h, i < r.length + 1 := fun i hi => (kid i hi).1
      rw [nodesL_node] at hcat
      have he : (!(us ++ [u]).isEmpty) = true := by simp
      rw [he]
      refine iteT ?_
      refine ⟨fun σ' H' => ∃ m', m' < _ ∧ _, fun _ _ h => h, ?_⟩
      refine ⟨_, rfl, .inl ⟨rfl, _, SqL.of hL2⟩, L, us ++ [u], u, rfl, rfl, hL2, by simp, ?_⟩
      rw [List.dropLast_concat]
      have LS : L ∈ [F, L] := by simp
      have FS : F ∈ [F, L] := by simp
      have hLn : H L = none := by
        cases q : H L with
        | none => rfl
        | some o => exact absurd (hn L LS) (by rw [q]; exact fun z => nomatch z)
      have lv : Live [F, L] H2 := fun c hc z => by
        simp only [List.mem_cons, List.not_mem_nil, or_false] at hc
        rcases hc with rfl | rfl
        · rw [hF2] at z
          cases z
        · rw [hL2] at z
          cases z
      have f3 : Fr [F, L] H2 (upd H2 L (.lst us)) := Fr.set LS
      have s3 : Same H (upd H2 L (.lst us)) := upd_same_new sH hLn
      have hF3 : (upd H2 L (.lst us)) F = some (.lst fv) := by rw [upd_ne FL]; exact hF2
      have hL3 : (upd H2 L (.lst us)) L = some (.lst us) := upd_same
      have lv3 : Live [F, L] (upd H2 L (.lst us)) := lv.upd
      replace hfA := f3.dxA hfA
      replace hA1 := f3.dxA hA1
      replace hu := f3.dx hu
      clear hA2 hpA hF2 hL2 sH lv f3
      generalize upd H2 L (.lst us) = H3 at *
      obtain ⟨a, es, rfl, te⟩ := hu.tupD
      obtain ⟨vp, vx, rfl⟩ : ∃ vp vx, es = [vp, vx] := len2 te.len
      obtain ⟨hvp, hvx⟩ : Dx K (hidS [F, L] H3) vp (pathD p) ∧ Dx K (hidS [F, L] H3) vx (.tuple (.str h :: r)) := by
        cases te.all with
        | cons a r => cases r with
          | cons b _ => exact ⟨a, b⟩
      obtain ⟨ap, pvs, rfl, tp⟩ := hvp.tupD
      obtain ⟨ax, xs, rfl, tx⟩ := hvx.tupD
      -- found.append(pair)
      refine ⟨_, rfl, .inl ⟨rfl, _, SqL.of hF3⟩, _, rfl, F, fv, _, rfl, rfl, hF3, ?_, ?_⟩
      · have l1 := DxAll.len hfA
        rw [List.length_map] at l1
        rw [sizeLine_eq]
        omega
      have f5 : Fr [F, L] H3 (upd H3 F (.lst (fv ++ [.ref a]))) := Fr.set FS
      have hFn : H F = none := hF
      replace s3 := upd_same_new (o := .lst (fv ++ [.ref a])) s3 hFn
      have hF5 : (upd H3 F (.lst (fv ++ [.ref a]))) F = some (.lst (fv ++ [.ref a])) := upd_same
      have hL5 : (upd H3 F (.lst (fv ++ [.ref a]))) L = some (.lst us) := by rw [upd_ne FL.symm]; exact hL3
      have hfA5 : DxAll K (hidS [F, L] (upd H3 F (.lst (fv ++ [.ref a])))) (fv ++ [.ref a]) ((fs ++ [(p, PyData.tuple (.str h :: r))]).map entD) := by
        rw [List.map_append]
        exact DxAll.app (f5.dxA hfA) (.cons (f5.tupD te).dx .nil)
      replace hA1 := f5.dxA hA1
      replace tp := f5.tupD tp
      replace tx := f5.tupD tx
      replace te := f5.tupD te
      replace lv3 : Live [F, L] (upd H3 F (.lst (fv ++ [.ref a]))) := lv3.upd
      clear hF3 hL3 hfA f5 hvp hvx hu
      generalize upd H3 F (.lst (fv ++ [.ref a])) = H5 at *
      refine ⟨_, rfl, a, _, rfl, Dx.sameT hid_same te.at_, rfl, _, _, rfl, _, _, rfl, rfl, ?_⟩
      -- the parts, backwards
      obtain ⟨v0, e0, h0⟩ := tx.get 0 rfl
      cases h0
      refine (fun (rest : ∀ (q : Addr) (H7 : Hp), Same H5 H7 → SqT K H7 q ((kidsAt h).map fun (i : Nat) => V.int i).reverse → (?G : Addr → Hp → Prop) q H7) => ?first) ?second
      case first =>
        refine ⟨rfl, _, rfl, ax, xs, _, _, rfl, rfl, Dx.sameT hid_same tx.at_, e0, by show 0 ≤ sizeLine; exact Nat.zero_le _, fun tt htt => ⟨h, rfl, ?_⟩⟩
        have st : Same H5 (upd H5 tt (.tup [])) := snew htt
        have b0 : SqT K (upd H5 tt (.tup [])) tt [] := SqT.of upd_same
        generalize upd H5 tt (.tup []) = H6 at st b0 ⊢
        rcases kids_row W h with ⟨u, b, e1, e2, e3⟩ | ⟨e1, e2⟩
        · refine ⟨some u, e1, fun u' eu => ?_, fun z => nomatch z⟩
          cases eu
          refine ⟨.ref b, e2, b, _, rfl, e3 _, fun q hq => ?_⟩
          have s7 := st.trans (snew (o := .tup ((kidsAt h).map fun (i : Nat) => V.int i).reverse) hq)
          have sq : SqT K (upd H6 q (.tup ((kidsAt h).map fun (i : Nat) => V.int i).reverse)) q ((kidsAt h).map fun (i : Nat) => V.int i).reverse := SqT.of upd_same
          generalize upd H6 q (.tup ((kidsAt h).map fun (i : Nat) => V.int i).reverse) = H7 at s7 sq ⊢
          exact rest q H7 s7 sq
        · refine ⟨none, e1, fun u eu => (nomatch eu), fun _ => ⟨tt, [], rfl, b0, fun q hq => ?_⟩⟩
          have s7 := st.trans (snew (o := .tup ([] : List V).reverse) hq)
          have sq : SqT K (upd H6 q (.tup ([] : List V).reverse)) q ((kidsAt h).map fun (i : Nat) => V.int i).reverse := by rw [e2]; exact SqT.of upd_same
          generalize upd H6 q (.tup ([] : List V).reverse) = H7 at s7 sq ⊢
          exact rest q H7 s7 sq
      case second =>
      intro q H7 s7 hq7
      have f6 : Fr [F, L] H5 H7 := Fr.of s7
      replace s3 := s3.trans s7
      replace hF5 := s7 _ _ hF5
      replace hL5 := s7 _ _ hL5
      replace hfA5 := f6.dxA hfA5
      replace hA1 := f6.dxA hA1
      replace tp := f6.tupD tp
      replace tx := f6.tupD tx
      replace lv3 := lv3.same s7
      have hbh : SqT K (hidS [F, L] H7) q ((kidsAt h).map fun (i : Nat) => V.int i).reverse := hid_at hq7 fun c hc => by
        simp only [List.mem_cons, List.not_mem_nil, or_false] at hc
        rcases hc with rfl | rfl
        · exact ⟨_, hF5⟩
        · exact ⟨_, hL5⟩
      have lxs : xs.length = r.length + 1 := by rw [tx.len, List.length_cons]
      clear f6 s7 hq7 te
      refine ⟨q, rfl, ⟨_, Dx.sameT hid_same hbh⟩, for_it (walk_tup (K := K) (a := q) (xs := ((kidsAt h).map fun (i : Nat) => V.int i).reverse))
        (fun i σ H' => ∃ (pv' : List V) (v6' : Option V), σ = [some v, some (.ref F), some (.ref L), some (.ref a), some (.ref ap), some (.ref ax), v6'] ∧ Fr [F, L] H7 H' ∧ Same H H' ∧ H' F = some (.lst (fv ++ [.ref a])) ∧ H' L = some (.lst pv') ∧ Live [F, L] H' ∧
          DxAll K (hidS [F, L] H') pv' ((qs ++ ((kidsAt h).reverse.take i).map fun j => (p ++ [j], (PyData.str h :: r).getD j .none)).map entD))
        ⟨us, v6, rfl, Fr.refl, s3, hF5, hL5, lv3, by simpa using hA1⟩ (fun i σ H' _ ⟨_, _, _, f, _⟩ => Dx.sameT hid_same (Dx.sameT f hbh)) ?_ ?_⟩
      · rintro i y σ H8 H8' hi ⟨pv', v6', rfl, f7, s7, hF7, hL7, lv7, hA7⟩ ⟨rfl, hy⟩
        rw [← List.map_reverse] at hy
        obtain ⟨j, rj, rfl⟩ := map_at hy
        have mj : j ∈ kidsAt h := List.mem_reverse.mp (List.mem_of_getElem? rj)
        have lj := kb j mj
        refine ⟨_, rfl, .inl ⟨rfl, _, SqL.of hL7⟩, _, rfl, _, rfl, by show 1 ≤ sizeLine; decide, fun q1 hq1 => ?_⟩
        have sq1 : Same H8' (upd H8' q1 (.tup [.int (j : Nat)])) := snew hq1
        have tq1 := newH (K := K) lv7 hq1 (.cons (.int (j : Nat)) .nil)
        have f8 := f7.trans (Fr.of (S := [F, L]) sq1)
        replace s7 := s7.trans sq1
        replace hF7 := sq1 _ _ hF7
        replace hL7 := sq1 _ _ hL7
        replace hA7 := (Fr.of (S := [F, L]) sq1).dxA hA7
        replace lv7 := lv7.same sq1
        clear f7
        generalize upd H8' q1 (.tup [.int (j : Nat)]) = H8 at *
        refine cat_h (S := [F, L]) lv7 (f8.tupD tp) tq1 ?_ fun q2 zs H9 s9 tq2 => ?_
        · rw [List.length_map]
          simp only [List.length_cons, List.length_nil]
          omega
        rw [path_snoc] at tq2
        have f9 := f8.trans (Fr.of (S := [F, L]) s9)
        have sx := (f9.tupD tx)
        refine ⟨_, rfl, _, rfl, ax, xs, j, xs.getD j .non, rfl, rfl, Dx.sameT hid_same sx.at_, getD_at (by rw [lxs]; exact lj), ?_⟩
        have hj2 : Dx K (hidS [F, L] H9) (xs.getD j .non) ((PyData.str h :: r).getD j .none) := by
          obtain ⟨w1, e1, e2⟩ := DxAll.at sx.all (i := j) (d := (PyData.str h :: r).getD j .none) (by
            rw [List.getD_eq_getElem?_getD, List.getElem?_eq_getElem (by rw [List.length_cons]; exact lj)]
            rfl)
          rw [List.getD_eq_getElem?_getD, e1]
          exact e2
        replace s7 := s7.trans s9
        replace hF7 := s9 _ _ hF7
        replace hL7 := s9 _ _ hL7
        replace hA7 := (Fr.of (S := [F, L]) s9).dxA hA7
        replace lv7 := lv7.same s9
        refine ⟨by show 2 ≤ sizeLine; decide, fun q3 hq3 => ?_⟩
        have tq3 := newH lv7 hq3 (.cons tq2.dx (.cons hj2 .nil))
        have sq3 : Same H9 (upd H9 q3 (.tup [.ref q2, xs.getD j .non])) := snew hq3
        have f10 := f9.trans (Fr.of (S := [F, L]) sq3)
        replace s7 := s7.trans sq3
        replace hF7 := sq3 _ _ hF7
        replace hL7 := sq3 _ _ hL7
        replace hA7 := (Fr.of (S := [F, L]) sq3).dxA hA7
        replace lv7 := lv7.same sq3
        clear f9 f8 tq1 hj2 sx sq1 s9 tq2
        generalize upd H9 q3 (.tup [.ref q2, xs.getD j .non]) = HA at *
        have f11 : Fr [F, L] HA (upd HA L (.lst (pv' ++ [.ref q3]))) := Fr.set LS
        refine ⟨L, pv', _, rfl, rfl, hL7, ?_, pv' ++ [.ref q3], _, rfl, f10.trans f11, upd_same_new s7 hLn, by rw [upd_ne FL]; exact hF7, upd_same, lv7.upd, ?_⟩
        · have l1 := DxAll.len hA7
          have l2 := kidsAt_len h
          have l3 := len_sumE qs
          simp only [List.map_append, List.length_append, List.length_map, List.length_take, List.length_reverse] at l1
          rw [sizeLine_eq]
          omega
        · rw [take_map_succ rj, ← List.append_assoc, List.map_append]
          exact DxAll.app (f11.dxA hA7) (.cons (f11.tupD tq3).dx .nil)
      · rintro σ H8 ⟨pv', v6', rfl, f7, s7, hF7, hL7, lv7, hA7⟩
        rw [List.length_reverse, List.length_map, ← List.length_reverse, List.take_length] at hA7
        refine ⟨_, ?_, fv ++ [.ref a], pv', fs ++ [(p, PyData.tuple (.str h :: r))], _, _, _, _, _, rfl, hF7, hL7, f7.dxA hfA5, hA7, s7, ?_, ?_, rfl, ?_⟩
        · rw [sumE_app, sumE_app, hsx, sumE_kids, size_kids ok]
          omega
        · intro e he
          rcases List.mem_append.mp he with he | he
          · exact hEq e he
          · obtain ⟨j, hj, rfl⟩ := List.mem_map.mp he
            have mj : j ∈ kidsAt h := List.mem_reverse.mp hj
            refine ⟨(kid j mj).2, ?_⟩
            have := depth_getD (PyData.str h :: r) j
            rw [depth_tup] at hpl
            show (p ++ [j]).length + ((PyData.str h :: r).getD j .none).depth ≤ d.depth
            rw [List.length_append, List.length_singleton]
            omega
        · rw [List.reverse_append, ← List.map_reverse, List.reverse_reverse, List.flatMap_append, List.flatMap_map, ← hcat]
          simp
        · rw [sumE_app, sumE_kids, List.length_append, List.length_singleton]
          rw [size_kids ok] at hm
          omega
end
end Any
set_option Elab.async false
set_option linter.all false
set_option maxRecDepth 100000
set_option maxHeartbeats 4000000
/-! Sets of texts: made of a list or a tuple, sorted, their size. -/
namespace Any
open PySem PySem.Spec PyProof.Rows L2
/-! ### what the rows of a set's table stand for -/
section
variable {P : Program} {w : World} {κ : Type} [DecidableEq κ] (kd : PySem.KeyKind P w κ)
inductive Keyed : List (Int × Value) → List κ → Prop
  | nil : Keyed [] []
  | cons {x : Value} {k : κ} {es : List (Int × Value)} {ks : List κ} (is : kd.is k x = true) (sc : x.scannable = true) (r : Keyed es ks) : Keyed ((kd.hash k, x) :: es) (k :: ks)
variable {kd}
theorem Keyed.len {es : List (Int × Value)} {ks : List κ} (h : Keyed kd es ks) : es.length = ks.length := by
  induction h with
  | nil => rfl
  | cons _ _ _ ih => rw [List.length_cons, List.length_cons, ih]
theorem Keyed.elems {es : List (Int × Value)} {ks : List κ} (h : Keyed kd es ks) : ElemsOf kd es := by
  induction h with
  | nil => exact fun e he => absurd he List.not_mem_nil
  | @cons x k es ks is sc r ih =>
    intro e he
    rcases List.mem_cons.mp he with z | z
    · rw [z]
      exact ⟨⟨k, is, rfl⟩, sc⟩
    · exact ih e z
theorem Keyed.mem {es : List (Int × Value)} {ks : List κ} (h : Keyed kd es ks) (k : κ) : (∃ e ∈ es, kd.is k e.2 = true) ↔ k ∈ ks := by
  induction h with
  | nil => simp
  | @cons x k' es ks is sc r ih =>
    constructor
    · rintro ⟨e, he, q⟩
      rcases List.mem_cons.mp he with z | z
      · rw [z] at q
        rw [kd.inj x k k' q is]
        exact List.mem_cons_self ..
      · exact List.mem_cons_of_mem _ (ih.mp ⟨e, z, q⟩)
    · intro m
      rcases List.mem_cons.mp m with z | z
      · exact ⟨_, List.mem_cons_self .., by rw [z]; exact is⟩
      · obtain ⟨e, he, q⟩ := ih.mpr z
        exact ⟨e, List.mem_cons_of_mem _ he, q⟩
theorem Keyed.perm {es es' : List (Int × Value)} (p : es.Perm es') : ∀ {ks : List κ}, Keyed kd es ks → ∃ ks', ks.Perm ks' ∧ Keyed kd es' ks' := by
  induction p with
  | nil => exact fun h => ⟨_, .refl _, h⟩
  | cons x _ ih =>
    intro ks h
    cases h with
    | cons is sc r =>
      obtain ⟨ks', q, h'⟩ := ih r
      exact ⟨_, q.cons _, .cons is sc h'⟩
  | swap x y l =>
    intro ks h
    cases h with
    | cons is sc r =>
      cases r with
      | cons is2 sc2 r2 => exact ⟨_, .swap _ _ _, .cons is2 sc2 (.cons is sc r2)⟩
  | trans _ _ ih1 ih2 =>
    intro ks h
    obtain ⟨k1, p1, h1⟩ := ih1 h
    obtain ⟨k2, p2, h2⟩ := ih2 h1
    exact ⟨k2, p1.trans p2, h2⟩
variable (kd)
/-- at a: a set that has just these keys, no two alike; its table rises and can be walked -/
def SetG (h : Heap) (a : Addr) (ks : List κ) : Prop := ∃ (o : Obj) (es : Array (Int × Value)) (ep : Nat) (t : SetTable), h.get? a = some o ∧ o.ExactSet ∧ o.data = .set es ep t ∧ Keyed kd es.toList ks ∧ ks.Nodup ∧
  es.size < scanBound ∧ t.fits es.size = true ∧ Ris t.place.toList ∧ (w.params.followText "set-order" = true ∨ t.led = true)
variable {kd}
theorem SetG.at {h h' : Heap} {a : Addr} {ks : List κ} (g : SetG kd h a ks) (k : ∀ o, h.get? a = some o → h'.get? a = some o) : SetG kd h' a ks := by
  obtain ⟨o, es, ep, t, e, r⟩ := g
  exact ⟨o, es, ep, t, k o e, r⟩
variable {A : Around} {E : Value → Shared → Prop} {s : Shared} {a : Addr}
/-- the new rows are stored, and all is laid anew where the table is too full -/
theorem settled {say : Bool → Sem Unit} (quiet : ∀ (b : Bool) (s₁ : Shared) (Q : Unit → Shared → Prop), Q () s₁ → wpAny (model P w) A (say b) Q E s₁) {o : Obj} {old new : Array (Int × Value)} {ep : Nat} {t0 t1 : SetTable} {ks : List κ} {dead : Bool} {R : Option Bool → Shared → Prop}
    (here : s.heap.get? a = some o) (plain : o.ExactSet) (dat : o.data = .set old ep t0) (keys : Keyed kd new.toList ks) (nd : ks.Nodup) (few : new.size < scanBound) (fit : t1.fits new.size = true) (ris : Ris t1.place.toList)
    (led : w.params.followText "set-order" = true ∨ t1.led = true) (out : ∀ h' ks', Heap.SameBut a s.heap h' → ks.Perm ks' → SetG kd h' a ks' → R (some true) { s with heap := h' }) :
    wpAny (model P w) A (do
        storeSet a new t1
        if (!dead && t1.tooFull) = true then do
            say (relayAll t1 new (SetTable.grown new.size)).2.2
            storeSet a (relayAll t1 new (SetTable.grown new.size)).1 (relayAll t1 new (SetTable.grown new.size)).2.1
            pure (some true)
          else pure (some true)) R E s := by
  have there := store_at (es' := new) (t' := t1) here dat
  have same := Heap.SameBut.update s.heap a (Obj.putSet new t1)
  refine wpAny_bind (wpAny_storeSet_of here dat ?_ (fits_of_scanBound few))
  by_cases full : (!dead && t1.tooFull) = true
  · rw [if_pos full]
    have perm := relayAll_perm t1 new (SetTable.grown new.size)
    have fit2 := relayAll_fits t1 new (SetTable.grown new.size)
    have ris2 := relayAll_ris t1 new (SetTable.grown new.size)
    have led2 := relayAll_led t1 new (SetTable.grown new.size)
    generalize relayAll t1 new (SetTable.grown new.size) = z at perm fit2 ris2 led2 ⊢
    obtain ⟨again, t2, gave⟩ := z
    simp only at perm fit2 ris2 led2 ⊢
    have size2 : again.size = new.size := by
      have := perm.length_eq
      rwa [Array.length_toList, Array.length_toList] at this
    obtain ⟨ks2, pk, keys2⟩ := keys.perm perm.symm
    refine wpAny_bind (quiet _ _ _ (wpAny_bind (wpAny_storeSet_of there rfl ?_ (fits_of_scanBound (by rw [size2]; exact few)))))
    exact wpAny_pure (out _ ks2 (same.trans (Heap.SameBut.update _ a _)) pk ⟨_, again, _, t2, store_at (es' := again) (t' := t2) there rfl, plain, rfl, keys2, pk.nodup_iff.mp nd, by rw [size2]; exact few, fit2, ris2, by rw [led2]; exact led⟩)
  · rw [if_neg full]
    exact wpAny_pure (out _ ks same (.refl _) ⟨_, new, _, t1, there, plain, rfl, keys, nd, few, fit, ris, led⟩)
/-- one more key, or one that is there -/
theorem added {k : κ} {x : Value} {ks : List κ} {Q : Bool → Shared → Prop} (is : kd.is k x = true) (sc : x.scannable = true) (g : SetG kd s.heap a ks) (room : ks.length + 1 < scanBound)
    (out : ∀ h' ks', Heap.SameBut a s.heap h' → SetG kd h' a ks' → (∀ j, j ∈ ks' ↔ j = k ∨ j ∈ ks) → ks'.length ≤ ks.length + 1 → ∀ b, Q b { s with heap := h' }) :
    wpAny (model P w) A (setAddHashed a x (kd.hash k)) Q E s := by
  obtain ⟨o, es, ep, t, here, plain, dat, keys, nd, few, fit, ris, led⟩ := g
  have elems := keys.elems
  have size : es.size = ks.length := by rw [← Array.length_toList, keys.len]
  unfold setAddHashed setAddHashedIn
  refine wpAny_holding (wpAny_bind (wpAny_setState_of here dat fit ?_))
  dsimp only
  rw [byScan_of sc few elems, if_pos rfl]
  unfold setAddByScan
  refine wpAny_bind (wpAny_bind (wpAny_rule (wpAny_bind (wpAny_setScan_of is here dat fit elems ?_))))
  cases hit : List.findIdx? (fun e => kd.is k e.2) es.toList with
  | none =>
    dsimp only
    have fresh : k ∉ ks := fun m => by
      obtain ⟨e, he, q⟩ := (keys.mem k).mpr m
      have := List.findIdx?_eq_none_iff.mp hit e he
      rw [q] at this
      cases this
    have perm := layNew_perm t es (kd.hash k) x
    have fit1 := layNew_fits t es (kd.hash k) x
    have ris1 := layNew_ris t es (kd.hash k) x ris
    have led1 := layNew_led t es (kd.hash k) x
    generalize layNew t es (kd.hash k) x = z at perm fit1 ris1 led1 ⊢
    obtain ⟨new, t1, dead, gave⟩ := z
    simp only at perm fit1 ris1 led1 ⊢
    rw [Array.toList_push] at perm
    have perm' := perm.trans (List.perm_append_singleton _ _)
    obtain ⟨ks1, pk, keys1⟩ := (Keyed.cons is sc keys).perm perm'.symm
    have nd1 : ks1.Nodup := pk.nodup_iff.mp (List.nodup_cons.mpr ⟨fresh, nd⟩)
    have size1 : new.size = ks.length + 1 := by
      rw [← Array.length_toList, keys1.len, ← pk.length_eq, List.length_cons]
    have few1 : new.size < scanBound := by rw [size1]; exact room
    have led2 : w.params.followText "set-order" = true ∨ t1.led = true := by rw [led1]; exact led
    have fin : ∀ h' ks', Heap.SameBut a s.heap h' → ks1.Perm ks' → SetG kd h' a ks' → ∀ b, Q b { s with heap := h' } := fun h' ks' sb p g' => by
      refine out h' ks' sb g' (fun j => ?_) (Nat.le_of_eq ?_)
      · rw [← (pk.trans p).mem_iff, List.mem_cons]
      · rw [← (pk.trans p).length_eq, List.length_cons]
    have calm : ∀ (b : Bool) (s₁ : Shared) (Q' : Unit → Shared → Prop), Q' () s₁ → wpAny (model P w) A (match b with | true => rule "set.scan.the-table-gave-way" | false => pure ()) Q' E s₁ := fun b s₁ Q' q => by
      cases b
      · exact wpAny_pure q
      · exact wpAny_rule q
    refine wpAny_bind (calm _ _ _ ?_)
    by_cases byVal : t1.plain = true
    · rw [if_pos byVal]
      refine wpAny_bind ?_
      rw [hashByValue_scannable 8 sc]
      refine wpAny_pure (settled (fun b s₁ Q' q => ?_) here plain dat keys1 nd1 few1 ?_ ?_ ?_ fun h' ks' sb p g' => wpAny_pure (fin h' ks' sb p g' _))
      · cases b
        · exact wpAny_pure q
        · exact wpAny_rule q
      · split
        · exact fit1
        · exact SetTable.fits_plain_off fit1
      · split <;> exact ris1
      · split <;> exact led2
    · rw [if_neg byVal]
      refine wpAny_bind (wpAny_pure ?_)
      simp only [if_true]
      refine settled (fun b s₁ Q' q => ?_) here plain dat keys1 nd1 few1 fit1 ris1 led2 fun h' ks' sb p g' => wpAny_pure (fin h' ks' sb p g' _)
      cases b
      · exact wpAny_pure q
      · exact wpAny_rule q
  | some j =>
    dsimp only
    have m : k ∈ ks := by
      obtain ⟨lt, q, _⟩ := List.findIdx?_eq_some_iff_getElem.mp hit
      exact (keys.mem k).mp ⟨es.toList[j], List.getElem_mem lt, q⟩
    refine wpAny_pure (wpAny_pure (out s.heap ks (Heap.SameBut.refl a s.heap) ⟨o, es, ep, t, here, plain, dat, keys, nd, few, fit, ris, led⟩ (fun i => ⟨.inr, fun z => z.elim (fun e => e ▸ m) id⟩) (Nat.le_succ _) _))
/-- all that a walk yields is put in -/
theorem fed {I S : Addr} {fp wr : List Addr} {G : Array GenState → Array GenState → Prop} {n : Nat} {Pv : Nat → Value → Prop} {St : Nat → Shared → Prop} {R : Result → Shared → Prop} (W : WalksS P w A.in1 I fp wr G n Pv St) (apart : S ∉ fp) (zs : List κ) (hn : n = zs.length)
    (few : n + 1 < scanBound) (val : ∀ i v, Pv i v → ∃ z, zs[i]? = some z ∧ kd.is z v = true ∧ v.scannable = true) : ∀ (left i : Nat) (s : Shared), n - i = left → i ≤ n → St i s →
      (∃ ks, SetG kd s.heap S ks ∧ ks.length ≤ i ∧ ∀ j, j ∈ ks ↔ j ∈ zs.take i) → (∀ s' ks, Moved (S :: wr) G s s' → SetG kd s'.heap S ks → (∀ j, j ∈ ks ↔ j ∈ zs) → R (.ok (.ret .none)) s') →
      codeAny (model P w) A (.builtin "set.update.loop" ⟨[.ref S, .ref I], []⟩) R s := by
  have sub : ∀ b ∈ wr, b ∈ S :: wr := fun b hb => List.mem_cons_of_mem _ hb
  have notW : S ∉ wr := fun m => apart (W.sub _ m)
  intro left
  induction left with
  | zero =>
    intro i s e le st ⟨ks, g, _, same⟩ out
    obtain rfl : i = n := by omega
    refine codeAny_builtin F.entry_set_update_loop ?_
    rw [Around.under_plainId F.plain_set_update_loop _]
    show wpAny _ A.in1 (pyNext (.ref I) >>= _) _ _ s
    refine wpAny_bind (W.done s _ _ st fun s' mv => ?_)
    show wpAny _ A.in1 (ret Value.none) _ _ s'
    rw [List.take_of_length_le (Nat.le_of_eq hn.symm)] at same
    exact wpAny_pure (out s' ks (mv.mono sub) (g.at fun o e => mv.heap S o notW e) same)
  | succ left ih =>
    intro i s e le st ⟨ks, g, many, same⟩ out
    have lt : i < n := by omega
    refine codeAny_builtin F.entry_set_update_loop ?_
    rw [Around.under_plainId F.plain_set_update_loop _]
    show wpAny _ A.in1 (pyNext (.ref I) >>= _) _ _ s
    refine wpAny_bind (W.item i s _ _ lt st fun v s1 pv st1 mv => ?_)
    obtain ⟨z, hz, is, sc⟩ := val i v pv
    have g1 : SetG kd s1.heap S ks := g.at fun o e => mv.heap S o notW e
    show wpAny _ A.in1 (holding [v] (setAdd S v) >>= _) _ _ s1
    refine wpAny_bind (wpAny_holding ?_)
    unfold setAdd
    refine wpAny_holding (wpAny_bind (kd.pyHash is ?_))
    refine added (s := { s1 with toks := s1.toks + 1 }) is sc g1 (by omega) fun h' ks' sb g2 same2 many2 b => ?_
    refine wpAny_pure ⟨plainId_quiet F.plain_set_update_loop _, ih (i + 1) _ (by omega) lt (W.frame _ s1 _ _ st1 (Nat.le_succ _) fun c hc o e => ?_) ⟨ks', g2, by omega, fun j => ?_⟩ fun s3 ks3 mv3 g3 same3 => ?_⟩
    · rw [sb.2 c fun z => apart (z ▸ hc)]
      exact e
    · rw [same2 j, same j, List.take_succ, hz]
      simp only [Option.toList_some, List.mem_append, List.mem_singleton]
      exact Or.comm
    · refine out s3 ks3 (Moved.trans W.gtrans ((mv.mono sub).then_heap (Nat.le_succ _) fun c o hc e => ?_) mv3) g3 same3
      rw [sb.2 c fun z => hc (z ▸ List.mem_cons_self ..)]
      exact e
theorem fresh_set {h : Heap} {a : Addr} (e : h.get? a = some { cls := .type "set", dict := none, data := .set #[] 0 (.fresh 0 0 (!w.params.followText "set-order")) }) : SetG kd h a [] := by
  refine ⟨_, #[], 0, _, e, ⟨rfl, rfl, rfl⟩, rfl, .nil, List.nodup_nil, by decide, rfl, List.Pairwise.nil, ?_⟩
  show _ ∨ (!w.params.followText "set-order") = true
  cases w.params.followText "set-order"
  · exact .inr rfl
  · exact .inl rfl
abbrev set0 (w : World) : Obj := { cls := .type "set", dict := none, data := .set #[] 0 (.fresh 0 0 (!w.params.followText "set-order")) }
set_option maxHeartbeats 3200000 in
theorem set_of_list {l : Addr} {items : Array Value} (zs : List κ) {Q : Value → Shared → Prop} (hh : A.handled = none) (src : s.heap.IsList l items) (size : items.size = zs.length) (few : zs.length + 1 < scanBound)
    (val : ∀ (i : Nat) (v : Value), items[i]? = some v → ∃ z, zs[i]? = some z ∧ kd.is z v = true ∧ v.scannable = true)
    (out : ∀ (h' : Heap) (tk : Nat) (ks : List κ), SetG kd h' s.heap.objs.size ks → (∀ j, j ∈ ks ↔ j ∈ zs) → (∀ b o, s.heap.get? b = some o → h'.get? b = some o) → Q (.ref s.heap.objs.size) { s with heap := h', toks := tk }) :
    wpAny (model P w) A (call (.type "set") [.ref l]) Q E s := by
  obtain ⟨c, tl, hmro⟩ := F.called_set.mro
  have hmade := F.called_set.made
  have hsub := F.called_set.sub
  have h1 := F.called_set.notType
  have h2 := F.called_set.canCreate
  have hct := F.typeCall_set_1 (.ref l)
  have born : (s.heap.push (set0 w)).get? s.heap.objs.size = some (set0 w) := Heap.get?_push_size _ rfl
  have bornT : Shared.TypeIs { s with heap := s.heap.push (set0 w) } (.ref s.heap.objs.size) "set" := ⟨_, born, rfl⟩
  refine wpAny_call (codeAny_of_tree (show wpAny _ _ (callAny (.type "set") _) _ _ _ from wpAny_pure ⟨Code.quiet_builtin _ (by decide +kernel), codeAny_builtin F.entry_type_call ?_⟩))
  rw [Around.under_plain (weight_type_call_type "set" [.ref l] []) rfl]
  repeat (any_goals (first | assumption | wp_step))
  refine codeAny_mono (code_set_led1 (.ref l) (E := E) (Q₁ := fun obj s₁ => obj = .ref s.heap.objs.size ∧ s₁ = { s with heap := s.heap.push (set0 w) }) ⟨rfl, rfl⟩) fun r s1 made => ?_
  match r, made with
  | .error e, z => exact z
  | .ok (.ret obj), ⟨eo, es⟩ =>
    subst eo es
    have hli := F.called_set.init.lookup
    have hbi := F.called_set.init.bind (.ref s.heap.objs.size)
    repeat (any_goals (first | assumption | wp_step))
    refine codeAny_mono (codeAny_call_builtin (R := wants (fun r s₂ => r = .none ∧ ∃ h' tk ks, s₂ = { s with heap := h', toks := tk } ∧ SetG kd h' s.heap.objs.size ks ∧ (∀ j, j ∈ ks ↔ j ∈ zs) ∧ ∀ b o, s.heap.get? b = some o → h'.get? b = some o) E)
      F.called_set.init.plain F.entry_set_init (check_set_init_1 bornT ?_)) fun r2 s2 done => ?_
    · obtain ⟨ol, at_, cls, nl, dat⟩ := src
      obtain ⟨oc, od, odat, osl⟩ := ol
      simp only at cls dat
      subst cls dat
      have at1 : (s.heap.push (set0 w)).get? l = some { cls := .type "list", dict := od, data := .seq items nl, slots := osl } := Heap.get?_push_of_some _ at_
      have hs1 := F.sub_list_set
      have hs2 := F.sub_list_frozenset
      have hne : (Value.type "list" == Value.type "dict") = false := by decide
      have src1 : (s.heap.push (set0 w)).IsList l items := ⟨_, at1, rfl, nl, rfl⟩
      unfold Builtin.«set.__init__» noKeywords Builtin.Frozenset.updateFrom
      generalize held : pyIter = iter
      wp_walk
      subst held
      refine wpAny_pyIter_list src1 (wpAny_bind (wpAny_runValue ?_))
      have below : l < s.heap.objs.size := Heap.lt_size at_
      have calm : A.in1.in1.in1.handled = none := by simp [hh]
      have size1 : (s.heap.push (set0 w)).objs.size = s.heap.objs.size + 1 := Heap.size_push ..
      have other : l ≠ (s.heap.push (set0 w)).objs.size := by rw [size1]; exact Nat.ne_of_lt (Nat.lt_succ_of_lt below)
      have apart : s.heap.objs.size ∉ [(s.heap.push (set0 w)).objs.size, l] := by
        rw [size1]
        simp only [List.mem_cons, List.not_mem_nil, or_false, not_or]
        exact ⟨Nat.ne_of_lt (Nat.lt_succ_self _), Nat.ne_of_gt below⟩
      refine fed ((Walks.list calm _ l other items).toS) apart zs size (by rw [size]; exact few) val items.size 0 _ (Nat.sub_zero _) (Nat.zero_le _)
        ⟨⟨_, Heap.get?_push_size _ rfl, rfl, rfl⟩, src1.push _⟩ ⟨[], fresh_set (Heap.get?_push_of_some _ born), Nat.le_refl _, fun j => by simp⟩ fun s3 ks mv g same => ?_
      obtain ⟨h3, g3, d3, t3, o3⟩ := s3
      obtain rfl : g3 = s.gens := mv.gens
      obtain rfl : d3 = s.drawn := mv.drawn
      obtain rfl : o3 = s.os := mv.os
      show wpAny _ _ _ _ _ _
      refine wpAny_pure (show wpAny _ _ (ret Value.none) _ _ _ from wpAny_pure ⟨rfl, h3, t3, ks, rfl, g, same, fun b o e => ?_⟩)
      have lt := Heap.lt_size e
      refine mv.heap b o ?_ (Heap.get?_push_of_some _ (Heap.get?_push_of_some _ e))
      rw [size1]
      simp only [List.mem_cons, List.not_mem_nil, or_false, not_or]
      exact ⟨Nat.ne_of_lt lt, Nat.ne_of_lt (Nat.lt_succ_of_lt lt)⟩
    · match r2, done with
      | .error e, z => exact z
      | .ok (.ret r), ⟨er, h', tk, ks, es, g, same, kept⟩ =>
        subst er es
        repeat (any_goals (first | assumption | wp_step))
        exact out h' tk ks g same kept
set_option maxHeartbeats 3200000 in
theorem set_of_tuple {l : Addr} {items : Array Value} (zs : List κ) {Q : Value → Shared → Prop} (hh : A.handled = none) (src : s.heap.IsTuple l items) (size : items.size = zs.length) (few : zs.length + 1 < scanBound)
    (val : ∀ (i : Nat) (v : Value), items[i]? = some v → ∃ z, zs[i]? = some z ∧ kd.is z v = true ∧ v.scannable = true)
    (out : ∀ (h' : Heap) (tk : Nat) (ks : List κ), SetG kd h' s.heap.objs.size ks → (∀ j, j ∈ ks ↔ j ∈ zs) → (∀ b o, s.heap.get? b = some o → h'.get? b = some o) → Q (.ref s.heap.objs.size) { s with heap := h', toks := tk }) :
    wpAny (model P w) A (call (.type "set") [.ref l]) Q E s := by
  obtain ⟨c, tl, hmro⟩ := F.called_set.mro
  have hmade := F.called_set.made
  have hsub := F.called_set.sub
  have h1 := F.called_set.notType
  have h2 := F.called_set.canCreate
  have hct := F.typeCall_set_1 (.ref l)
  have born : (s.heap.push (set0 w)).get? s.heap.objs.size = some (set0 w) := Heap.get?_push_size _ rfl
  have bornT : Shared.TypeIs { s with heap := s.heap.push (set0 w) } (.ref s.heap.objs.size) "set" := ⟨_, born, rfl⟩
  refine wpAny_call (codeAny_of_tree (show wpAny _ _ (callAny (.type "set") _) _ _ _ from wpAny_pure ⟨Code.quiet_builtin _ (by decide +kernel), codeAny_builtin F.entry_type_call ?_⟩))
  rw [Around.under_plain (weight_type_call_type "set" [.ref l] []) rfl]
  repeat (any_goals (first | assumption | wp_step))
  refine codeAny_mono (code_set_led1 (.ref l) (E := E) (Q₁ := fun obj s₁ => obj = .ref s.heap.objs.size ∧ s₁ = { s with heap := s.heap.push (set0 w) }) ⟨rfl, rfl⟩) fun r s1 made => ?_
  match r, made with
  | .error e, z => exact z
  | .ok (.ret obj), ⟨eo, es⟩ =>
    subst eo es
    have hli := F.called_set.init.lookup
    have hbi := F.called_set.init.bind (.ref s.heap.objs.size)
    repeat (any_goals (first | assumption | wp_step))
    refine codeAny_mono (codeAny_call_builtin (R := wants (fun r s₂ => r = .none ∧ ∃ h' tk ks, s₂ = { s with heap := h', toks := tk } ∧ SetG kd h' s.heap.objs.size ks ∧ (∀ j, j ∈ ks ↔ j ∈ zs) ∧ ∀ b o, s.heap.get? b = some o → h'.get? b = some o) E)
      F.called_set.init.plain F.entry_set_init (check_set_init_1 bornT ?_)) fun r2 s2 done => ?_
    · obtain ⟨ol, at_, cls, nl, dat⟩ := src
      obtain ⟨oc, od, odat, osl⟩ := ol
      simp only at cls dat
      subst cls dat
      have at1 : (s.heap.push (set0 w)).get? l = some { cls := .type "tuple", dict := od, data := .seq items nl, slots := osl } := Heap.get?_push_of_some _ at_
      have hs1 := F.sub_tuple_set
      have hs2 := F.sub_tuple_frozenset
      have hne : (Value.type "tuple" == Value.type "dict") = false := by decide
      have src1 : (s.heap.push (set0 w)).IsTuple l items := ⟨_, at1, rfl, nl, rfl⟩
      unfold Builtin.«set.__init__» noKeywords Builtin.Frozenset.updateFrom
      generalize held : pyIter = iter
      wp_walk
      subst held
      refine wpAny_pyIter_tuple src1 (wpAny_bind (wpAny_runValue ?_))
      have below : l < s.heap.objs.size := Heap.lt_size at_
      have calm : A.in1.in1.in1.handled = none := by simp [hh]
      have size1 : (s.heap.push (set0 w)).objs.size = s.heap.objs.size + 1 := Heap.size_push ..
      have other : l ≠ (s.heap.push (set0 w)).objs.size := by rw [size1]; exact Nat.ne_of_lt (Nat.lt_succ_of_lt below)
      have apart : s.heap.objs.size ∉ [(s.heap.push (set0 w)).objs.size, l] := by
        rw [size1]
        simp only [List.mem_cons, List.not_mem_nil, or_false, not_or]
        exact ⟨Nat.ne_of_lt (Nat.lt_succ_self _), Nat.ne_of_gt below⟩
      refine fed ((Walks.tuple calm _ l other items).toS) apart zs size (by rw [size]; exact few) val items.size 0 _ (Nat.sub_zero _) (Nat.zero_le _)
        ⟨⟨_, Heap.get?_push_size _ rfl, rfl, rfl⟩, src1.push _⟩ ⟨[], fresh_set (Heap.get?_push_of_some _ born), Nat.le_refl _, fun j => by simp⟩ fun s3 ks mv g same => ?_
      obtain ⟨h3, g3, d3, t3, o3⟩ := s3
      obtain rfl : g3 = s.gens := mv.gens
      obtain rfl : d3 = s.drawn := mv.drawn
      obtain rfl : o3 = s.os := mv.os
      show wpAny _ _ _ _ _ _
      refine wpAny_pure (show wpAny _ _ (ret Value.none) _ _ _ from wpAny_pure ⟨rfl, h3, t3, ks, rfl, g, same, fun b o e => ?_⟩)
      have lt := Heap.lt_size e
      refine mv.heap b o ?_ (Heap.get?_push_of_some _ (Heap.get?_push_of_some _ e))
      rw [size1]
      simp only [List.mem_cons, List.not_mem_nil, or_false, not_or]
      exact ⟨Nat.ne_of_lt lt, Nat.ne_of_lt (Nat.lt_succ_of_lt lt)⟩
    · match r2, done with
      | .error e, z => exact z
      | .ok (.ret r), ⟨er, h', tk, ks, es, g, same, kept⟩ =>
        subst er es
        repeat (any_goals (first | assumption | wp_step))
        exact out h' tk ks g same kept
end
end Any
set_option Elab.async false
set_option linter.all false
set_option maxRecDepth 100000
set_option maxHeartbeats 4000000
/-! Sets of texts over the abstract heap: set(xs), sorted(found), len(found). -/
namespace Any
open PySem PySem.Spec PyProof.Rows L2
abbrev SKd (P : Program) (w : World) : PySem.KeyKind P w Str := PySem.strKind P w
theorem keyed_strs {P : Program} {w : World} {es : List (Int × Value)} {ks : List Str} (h : Keyed (SKd P w) es ks) : StrsAre (es.map (·.2)) ks := by
  induction h with
  | nil => exact .nil
  | @cons x k es ks is sc r ih =>
    obtain ⟨t, rfl⟩ := Value.isStrOf_shape is
    exact .cons k t ih
theorem strs_perm {vs vs' : List Value} (p : vs.Perm vs') : ∀ {ss : List Str}, StrsAre vs ss → ∃ ss', ss.Perm ss' ∧ StrsAre vs' ss' := by
  induction p with
  | nil => exact fun h => ⟨_, .refl _, h⟩
  | cons x _ ih =>
    intro ss h
    cases h with
    | cons y t r =>
      obtain ⟨ss', q, h'⟩ := ih r
      exact ⟨_, q.cons _, .cons y t h'⟩
  | swap x y l =>
    intro ss h
    cases h with
    | cons y t r =>
      cases r with
      | cons y2 t2 r2 => exact ⟨_, .swap _ _ _, .cons _ _ (.cons _ _ r2)⟩
  | trans _ _ ih1 ih2 =>
    intro ss h
    obtain ⟨k1, p1, h1⟩ := ih1 h
    obtain ⟨k2, p2, h2⟩ := ih2 h1
    exact ⟨k2, p1.trans p2, h2⟩
/-- at a: a set of the texts of zs -/
def StsO (P : Program) (w : World) (a : Addr) (zs : List Str) : HO := .ext fun h => ∃ ks, SetG (SKd P w) h a ks ∧ ∀ j, j ∈ ks ↔ j ∈ zs
theorem stsO_ok {P : Program} {w : World} {H : Hp} {h : Heap} {a : Addr} {ks zs : List Str} (g : SetG (SKd P w) h a ks) (m : ∀ j, j ∈ ks ↔ j ∈ zs) : ObjOk P w H h a (StsO P w a zs) := by
  obtain ⟨o, es, ep, t, e, r⟩ := id g
  exact ⟨⟨ks, g, m⟩, ⟨o, e⟩, fun _ _ ⟨ks, g, m⟩ k => ⟨ks, g.at k, m⟩⟩
section
variable {P : Program} {w : World} {A : Around} {E : Value → Shared → Prop} {s : Shared} {a : Addr}
/-- sorted(found) -/
theorem sorted_sts {ks : List Str} {Q : Value → Shared → Prop} (g : SetG (SKd P w) s.heap a ks) (hh : A.handled = none)
    (out : ∀ (s1 : Shared) (p : Addr) (its : List Value) (c : Nat) (ys : List Str), (∀ b o, s.heap.get? b = some o → s1.heap.get? b = some o) → s1.gens = s.gens → s1.os = s.os → s.heap.objs.size ≤ p → s1.heap.get? p = some (seqObj "list" its.toArray c) →
      StrsAre its ys → ks.Perm ys → sortedS ys = true → Q (.ref p) s1) : wpAny (model P w) A (call (.builtin "sorted") [.ref a]) Q E s := by
  obtain ⟨o, es, ep, t, here, plain, dat, keys, nd, few, fit, ris, led⟩ := g
  have small := fits_of_scanBound few
  refine Calls.call_function_entry kind_sorted plain_sorted entry_sorted (args_sorted1 _) ?_
  unfold Builtin.«sorted»
  refine wpAny_bind (m := checkCount "sorted" 1 1 _) (wpAny_pure (wpAny_bind (collect_set (A := A.in1) hh ⟨o, here, plain.1, dat⟩ fit few ris led fun s1 vs kept size gens os perm => ?_)))
  obtain ⟨ss, ps, tx⟩ := strs_perm perm.symm (keyed_strs keys)
  have len : vs.length ≤ sizeLine := by
    rw [perm.length_eq, List.length_map, Array.length_toList]
    exact small
  refine wpAny_bind (wpAny_newList ?_ len)
  have laid : (s1.heap.push (seqObj "list" vs.toArray 0)).get? s1.heap.objs.size = some (seqObj "list" vs.toArray 0) := Heap.get?_push_size _ rfl
  refine wpAny_bind (wpAny_holding (wpAny_call_entry slot_list_sort ⟨_, laid, rfl⟩ entry_list_sort (list_sort_treeKAny PyProof.Rows.strKind_oneLt laid tx.keysOf (fun v₁ v₂ rest e => keyKind_strs (by rw [← e]; exact tx)) len fun st perm2 sorted => ⟨_, rfl, ?_⟩) (args_list_sort _)))
  obtain ⟨ys, strs2, py, inOrder⟩ := sorted_out_str tx perm2 sorted
  obtain ⟨c, at_⟩ := sortedHeap_at (vs := vs) (out := (arrOf st).map (·.2)) laid
  refine wpAny_pure ⟨_, rfl, out _ s1.heap.objs.size _ c ys (fun b u e => ?_) gens os size (by rw [at_, Array.toArray_toList]) strs2 (ps.trans py.symm) inOrder⟩
  have e1 := kept b u e
  have lt := Heap.lt_size e1
  show (sortedHeap (s1.heap.push (seqObj "list" vs.toArray 0)) s1.heap.objs.size vs _).get? b = some u
  rw [sortedHeap_old (Nat.ne_of_lt lt) (by rw [size_push']; exact Nat.lt_succ_of_lt lt)]
  exact Heap.get?_push_of_some _ e1
end
section
variable {X : Cx}
/-- set(texts) -/
def rSetS (K : PySem.W.Frag) (P : Program) (w : World) : List V → Hp → VK → Prop := fun xs H Q => ∃ (l : Addr) (zs : List Str), xs = [V.ref l] ∧ (SqL K H l (zs.map V.str) ∨ SqT K H l (zs.map V.str)) ∧ zs.length < 4000 ∧ ∀ a, H a = none → Q (.ref a) (upd H a (StsO P w a zs))
theorem str_vals {zs : List Str} {its : List Value} (r : Vals (zs.map V.str) its) {P : Program} {w : World} : its.toArray.size = zs.length ∧ ∀ (i : Nat) (v : Value), its.toArray[i]? = some v → ∃ z, zs[i]? = some z ∧ (SKd P w).is z v = true ∧ v.scannable = true := by
  have len := r.length
  rw [List.length_map] at len
  refine ⟨by rw [List.size_toArray]; exact len.symm, fun i v e => ?_⟩
  have e : its[i]? = some v := by simpa using e
  have lt : i < zs.length := by
    rw [len]
    exact (List.getElem?_eq_some_iff.mp e).1
  obtain ⟨u, eu, ru⟩ := r.get (i := i) (x := V.str zs[i]) (by rw [List.getElem?_map, List.getElem?_eq_getElem lt]; rfl)
  cases e.symm.trans eu
  obtain ⟨t, rfl⟩ := ru
  exact ⟨zs[i], List.getElem?_eq_getElem lt, strKind_is P w _ t, rfl⟩
theorem cr_setS (hc : X.calm = true) : CallR X (.type "set") (rSetS X.K X.prog X.w) := by
  intro pins s σ H xs us Q I r h
  obtain ⟨l, zs, rfl, src, few, q⟩ := h
  rw [Vals.ref1 r]
  have room : zs.length + 1 < scanBound := by
    have : scanBound = 4096 := rfl
    omega
  have fin : ∀ (h' : Heap) (tk : Nat) (ks : List Str), SetG (SKd X.prog X.w) h' s.heap.objs.size ks → (∀ j, j ∈ ks ↔ j ∈ zs) → (∀ b o, s.heap.get? b = some o → h'.get? b = some o) → EP X pins σ Q (.ref s.heap.objs.size) { s with heap := h', toks := tk } := fun h' tk ks g m kept =>
    ⟨.ref s.heap.objs.size, _, I.laid (t' := tk) kept (Nat.le_refl _) (stsO_ok g m), rfl, q _ (I.hok.fresh (Nat.le_refl _))⟩
  rcases src with src | src
  · obtain ⟨its, rv, pl, _⟩ := I.list src
    obtain ⟨n, vals⟩ := str_vals rv (P := X.prog) (w := X.w)
    exact set_of_list zs (I.ok.hd hc) pl.isList n room vals fin
  · obtain ⟨its, rv, pl, _⟩ := I.tuple src
    obtain ⟨n, vals⟩ := str_vals rv (P := X.prog) (w := X.w)
    exact set_of_tuple zs (I.ok.hd hc) pl n room vals fin
theorem sts_get {pins : List (Addr × Obj)} {σ : L2.St} {H : Hp} {s : Shared} {a : Addr} {zs : List Str} (I : Inv X pins σ H s) (e : H a = some (StsO X.prog X.w a zs)) : ∃ ks, SetG (SKd X.prog X.w) s.heap a ks ∧ ∀ j, j ∈ ks ↔ j ∈ zs :=
  (show ObjOk X.prog X.w H s.heap a (.ext _) from I.hok a _ e).1
/-- sorted(found) -/
def rSortS (P : Program) (w : World) : List V → Hp → VK → Prop := fun xs H Q => ∃ (a : Addr) (zs : List Str), xs = [V.ref a] ∧ H a = some (StsO P w a zs) ∧ ∀ ys p, ys.Nodup → (∀ j, j ∈ ys ↔ j ∈ zs) → sortedS ys = true → H p = none → Q (.ref p) (upd H p (.lst (ys.map V.str)))
theorem cr_sortS (hc : X.calm = true) : CallR X (.builtin "sorted") (rSortS X.prog X.w) := by
  intro pins s σ H xs us Q I r h
  obtain ⟨a, zs, rfl, e, q⟩ := h
  rw [Vals.ref1 r]
  obtain ⟨ks, g, m⟩ := sts_get I e
  have nd : ks.Nodup := by
    obtain ⟨_, _, _, _, _, _, _, _, nd, _⟩ := g
    exact nd
  have few : ks.length < 4096 := by
    obtain ⟨_, es, _, _, _, _, _, keys, _, few, _⟩ := g
    rw [← keys.len, Array.length_toList]
    exact few
  refine sorted_sts g (I.ok.hd hc) fun s1 p its c ys kept gens os above at_ tx perm inOrder => ?_
  have np : H p = none := I.hok.fresh above
  have len : (ys.map V.str).length ≤ sizeLine := by
    rw [List.length_map, ← perm.length_eq, sizeLine_eq]
    omega
  have J : Inv X pins σ (upd H p (.lst (ys.map V.str))) { s with heap := s1.heap, gens := s1.gens, drawn := s1.drawn, toks := s1.toks } :=
    I.call (ch := []) (Un.laid kept above np) (I.hok.laid kept above ⟨len, its, c, vals_of_strs tx, at_⟩) (by rw [gens]; exact I.bare) fun _ z => nomatch z
  have es : s1 = { s with heap := s1.heap, gens := s1.gens, drawn := s1.drawn, toks := s1.toks } := by
    cases s1
    cases s
    cases os
    rfl
  rw [es]
  exact ⟨.ref p, _, J, rfl, q ys p (perm.nodup_iff.mp nd) (fun j => by rw [← perm.mem_iff, m]) inOrder np⟩
/-- len(found) -/
def rLenS (P : Program) (w : World) : List V → Hp → VK → Prop := fun xs H Q => ∃ (a : Addr) (zs : List Str), xs = [V.ref a] ∧ H a = some (StsO P w a zs) ∧ ∀ ks : List Str, ks.Nodup → (∀ j, j ∈ ks ↔ j ∈ zs) → Q (.int ks.length) H
theorem call_lenS : CallR X (.builtin "len") (rLenS X.prog X.w) := by
  intro pins s σ H xs us Q I r h
  obtain ⟨a, zs, rfl, e, q⟩ := h
  rw [Vals.ref1 r]
  obtain ⟨ks, ⟨o, es, ep, t, here, plain, dat, keys, nd, few, fit, _, _⟩, m⟩ := sts_get I e
  refine call_len_set here plain dat fit (by have := fits_of_scanBound few; rw [sizeLine_eq] at this; omega) ⟨.int ks.length, H, I.tok _, ⟨_, by rw [← keys.len, Array.length_toList]⟩, q ks nd m⟩
end
end Any
set_option Elab.async false
set_option linter.all false
set_option maxRecDepth 100000
set_option maxHeartbeats 4000000
/-! open_kind. -/
namespace Any
open PySem PySem.Spec PyProof.Rows L2 RT
open He (ga ma)
/-! ### the mathematics -/
theorem nodes_ok : ∀ (n : Nat) (p : List Nat) (d : PyData), exD d = true → d.depth < n → ∀ e ∈ nodesN n p d, exD e.2 = true ∧ wt e.2 ≤ wt d ∧ e.2.depth ≤ d.depth
  | 0, _, _, _, h => absurd h (Nat.not_lt_zero _)
  | n + 1, p, d, hex, hd => by
    obtain ⟨x, r, rfl, ok, kid⟩ := ex_node hex
    intro e he
    rcases List.mem_cons.mp he with rfl | he
    · exact ⟨hex, Nat.le_refl _, Nat.le_refl _⟩
    · obtain ⟨i, hi, m⟩ := List.mem_flatMap.mp he
      obtain ⟨lt, hk⟩ := kid i hi
      have dk := depth_getD (PyData.str x :: r) i
      rw [depth_tup] at hd
      obtain ⟨h1, h2, h3⟩ := nodes_ok n _ _ hk (by omega) e m
      refine ⟨h1, Nat.le_trans h2 ?_, Nat.le_trans h3 (by rw [depth_tup]; omega)⟩
      have : (PyData.str x :: r)[i]? = some ((PyData.str x :: r).getD i .none) := by
        rw [List.getD_eq_getElem?_getD, List.getElem?_eq_getElem (by rw [List.length_cons]; exact lt)]
        rfl
      have := wtA_mem (List.mem_of_getElem? this)
      simp only [wt] at this ⊢
      omega
theorem nodesL_ok {p : List Nat} {d : PyData} (h : exD d = true) : ∀ e ∈ nodesL p d, exD e.2 = true ∧ wt e.2 ≤ wt d ∧ e.2.depth ≤ d.depth := nodes_ok _ p d h (Nat.lt_succ_self _)
theorem nodes_len : ∀ (n : Nat) (p : List Nat) (d : PyData), exD d = true → d.depth < n → (nodesN n p d).length = Exq.sizeOfEx d
  | 0, _, _, _, h => absurd h (Nat.not_lt_zero _)
  | n + 1, p, d, hex, hd => by
    obtain ⟨x, r, rfl, ok, kid⟩ := ex_node hex
    rw [size_kids ok]
    show ((kidsAt x).flatMap fun i => nodesN n (p ++ [i]) ((PyData.str x :: r).getD i .none)).length + 1 = _
    rw [List.length_flatMap, Nat.add_comm]
    congr 2
    refine List.map_congr_left fun i hi => ?_
    obtain ⟨lt, hk⟩ := kid i hi
    have dk := depth_getD (PyData.str x :: r) i
    rw [depth_tup] at hd
    exact nodes_len n _ _ hk (by omega)
theorem nodesL_len {p : List Nat} {d : PyData} (h : exD d = true) : (nodesL p d).length = Exq.sizeOfEx d := nodes_len _ p d h (Nat.lt_succ_self _)
theorem ok_head {h : Str} {r : List PyData} (ok : Exq.nodeOk nmD h r = true) : h ∈ Exq.opsN ++ [("each" : Str), "name"] ++ lenKeys := by
  by_cases m : h ∈ Exq.opsN
  · exact List.mem_append_left _ (List.mem_append_left _ m)
  by_cases e1 : h = "each"
  · rw [e1]
    simp
  by_cases e2 : h = "name"
  · rw [e2]
    simp
  rw [other_node m e1 e2] at ok
  simp only [Bool.and_eq_true, decide_eq_true_eq] at ok
  exact List.mem_append_right _ ok.1
theorem head_long : ∀ h ∈ Exq.opsN ++ [("each" : Str), "name"] ++ lenKeys, 2 ≤ h.length := by decide +kernel
/-- each node weighs four at least -/
theorem size4 : ∀ (n : Nat) (d : PyData), exD d = true → d.depth < n → 4 * Exq.sizeOfEx d ≤ wt d
  | 0, _, _, h => absurd h (Nat.not_lt_zero _)
  | n + 1, d, hex, hd => by
    obtain ⟨x, r, rfl, ok, kid⟩ := ex_node hex
    have hl := head_long x (ok_head ok)
    obtain ⟨km, _⟩ := kids_map ok
    rw [Exq.sizeOfEx_node]
    have hk : ∀ y ∈ Exq.kids x r, 4 * Exq.sizeOfEx y ≤ wt y := fun y hy => by
      have dy := Exq.depth_mem (Exq.kids_mem hy)
      rw [depth_tup] at hd
      have dd : PyData.depthAll r ≤ PyData.depthAll (PyData.str x :: r) := Nat.le_max_right _ _
      rw [km] at hy
      obtain ⟨i, hi, rfl⟩ := List.mem_map.mp hy
      have dk := depth_getD (PyData.str x :: r) i
      exact size4 n _ (kid i hi).2 (by omega)
    have s1 : ∀ l : List PyData, (∀ y ∈ l, 4 * Exq.sizeOfEx y ≤ wt y) → 4 * (l.map Exq.sizeOfEx).sum ≤ (l.map wt).sum := by
      intro l
      induction l with
      | nil => exact fun _ => Nat.le_refl _
      | cons y l ih =>
        intro h
        have h1 := h y (List.mem_cons_self ..)
        have h2 := ih fun z hz => h z (List.mem_cons_of_mem _ hz)
        simp only [List.map_cons, List.sum_cons]
        omega
    have s2 : ∀ l : List PyData, (l.map wt).sum = wtA l := by
      intro l
      induction l with
      | nil => rfl
      | cons y l ih => simp only [List.map_cons, List.sum_cons, wtA, ih]
    have s3 := s1 _ hk
    have s4 := size_sub wt (kids_wt (h := x) (r := r))
    rw [s2 r] at s4
    simp only [wt, wtA]
    omega
theorem size4' {d : PyData} (h : exD d = true) : 4 * Exq.sizeOfEx d ≤ wt d := size4 _ d h (Nat.lt_succ_self _)
/-- the name that a node of one of the heads bears -/
def nameIn (ws : List Str) : PyData → Option Str
  | .tuple (.str h :: .str s :: _) => if h ∈ ws then some s else none
  | _ => none
def namesW (ws : List Str) (d : PyData) : List Str := (nodesL [] d).filterMap fun e => nameIn ws e.2
theorem nmD_str {x : PyData} (h : nmD x = true) : ∃ s, x = .str s ∧ isNm s = true := by
  unfold nmD at h
  split at h
  · exact ⟨_, rfl, h⟩
  · cases h
theorem named_node {h : Str} {r : List PyData} (ok : Exq.nodeOk nmD h r = true) (m : h ∈ [("name" : Str), "set", "each", "call"]) : ∃ s r', r = .str s :: r' ∧ isNm s = true := by
  simp only [List.mem_cons, List.not_mem_nil, or_false] at m
  rcases m with rfl | rfl | rfl | rfl
  · rw [name_node] at ok
    simp only [Bool.and_eq_true] at ok
    obtain ⟨s, e, n⟩ := nmD_str ok.2.1
    match r, e with
    | .str s :: r', rfl => exact ⟨s, r', rfl, n⟩
  · rw [other_node (by decide +kernel) (by decide +kernel) (by decide +kernel), if_neg (by decide +kernel), show decide (("set" : Str) ∈ [("set" : Str), "call"]) = true by decide +kernel] at ok
    simp only [Bool.and_eq_true, Bool.not_true, Bool.false_or] at ok
    obtain ⟨s, e, n⟩ := nmD_str ok.2.2
    match r, e with
    | .str s :: r', rfl => exact ⟨s, r', rfl, n⟩
  · rw [each_node] at ok
    unfold Exq.eachOk at ok
    split at ok
    · simp only [Bool.and_eq_true] at ok
      obtain ⟨s, e, n⟩ := nmD_str ok.1
      exact ⟨s, _, by rw [e], n⟩
    · simp only [Bool.and_eq_true] at ok
      obtain ⟨s, e, n⟩ := nmD_str ok.1
      exact ⟨s, _, by rw [e], n⟩
    · cases ok
  · rw [other_node (by decide +kernel) (by decide +kernel) (by decide +kernel), if_neg (by decide +kernel), show decide (("call" : Str) ∈ [("set" : Str), "call"]) = true by decide +kernel] at ok
    simp only [Bool.and_eq_true, Bool.not_true, Bool.false_or] at ok
    obtain ⟨s, e, n⟩ := nmD_str ok.2.2
    match r, e with
    | .str s :: r', rfl => exact ⟨s, r', rfl, n⟩
/-! ### open_kind -/
def openB (kd : Str) (h : Str) (r : List PyData) : Bool :=
  if kd = "order" then decide (h ∈ Exq.opsN) && decide (r.length = 2) else if kd = "walk" then decide (h = "each") && decide (r.length = 4) else decide (h = "name") && decide (r.length = 1)
def opK (h : Str) (r : List PyData) : Option Str :=
  if h = "name" then (if r.length = 1 then some "fill" else none) else if h = "each" then (if r.length = 4 then some "walk" else none) else if h ∈ Exq.opsN ∧ r.length = 2 then some "order" else none
theorem ops_name : ("name" : Str) ∉ Exq.opsN := by decide +kernel
theorem ops_each : ("each" : Str) ∉ Exq.opsN := by decide +kernel
theorem opK_is {kd : Str} (m : kd ∈ [("order" : Str), "walk", "fill"]) (h : Str) (r : List PyData) : openB kd h r = decide (opK h r = some kd) := by
  have n1 : ("fill" : Str) ≠ "order" := by decide +kernel
  have n2 : ("fill" : Str) ≠ "walk" := by decide +kernel
  have n3 : ("walk" : Str) ≠ "order" := by decide +kernel
  have n4 : ("each" : Str) ≠ "name" := by decide +kernel
  simp only [List.mem_cons, List.not_mem_nil, or_false] at m
  unfold openB opK
  by_cases c1 : h = "name"
  · subst c1
    rcases m with rfl | rfl | rfl
    · rw [if_pos rfl, if_pos rfl, decide_eq_false ops_name, Bool.false_and]
      split <;> simp [n1, n1.symm]
    · rw [if_neg n3, if_pos rfl, if_pos rfl, decide_eq_false n4.symm, Bool.false_and]
      split <;> simp [n2, n2.symm]
    · rw [if_neg n1, if_neg n2, if_pos rfl, decide_eq_true rfl, Bool.true_and]
      split <;> simp [*]
  · by_cases c2 : h = "each"
    · subst c2
      rcases m with rfl | rfl | rfl
      · rw [if_pos rfl, if_neg n4, if_pos rfl, decide_eq_false ops_each, Bool.false_and]
        split <;> simp [n3, n3.symm]
      · rw [if_neg n3, if_pos rfl, if_neg n4, if_pos rfl, decide_eq_true rfl, Bool.true_and]
        split <;> simp [*]
      · rw [if_neg n1, if_neg n2, if_neg n4, if_pos rfl, decide_eq_false n4, Bool.false_and]
        split <;> simp [n2, n2.symm]
    · rcases m with rfl | rfl | rfl
      · rw [if_pos rfl, if_neg c1, if_neg c2]
        by_cases z : h ∈ Exq.opsN ∧ r.length = 2
        · rw [if_pos z, decide_eq_true z.1, decide_eq_true z.2]
          rfl
        · rw [if_neg z]
          by_cases y : h ∈ Exq.opsN
          · rw [decide_eq_true y, decide_eq_false fun q => z ⟨y, q⟩]
            rfl
          · rw [decide_eq_false y]
            rfl
      · rw [if_neg n3, if_pos rfl, if_neg c1, if_neg c2, decide_eq_false c2, Bool.false_and]
        split <;> simp [n3, n3.symm]
      · rw [if_neg n1, if_neg n2, if_neg c1, if_neg c2, decide_eq_false c1, Bool.false_and]
        split <;> simp [n1, n1.symm]
def opV (h : Str) (r : List PyData) : V := match opK h r with
  | some s => .str s
  | none => .non
def spOpenK (K : PySem.W.Frag) : Sp := fun vs H Q _ => ∃ v h r, vs = [v] ∧ Dx K H v (.tuple (.str h :: r)) ∧ Q (opV h r) H
section
variable {P : Program} {w : World} {K : PySem.W.Frag} {mg : Str → Option Value} {base : Heap}
theorem scOpenKind : FnScope ["node"] ["node"] (defScope sOpenKind) := ⟨rfl, rfl, rfl, by decide +kernel, rfl, by decide +kernel, by decide +kernel⟩
theorem hOpenKind (D : DS K mg) (T : TF mg) (W : TT K w mg) : Has P w K mg base CX0 "open_kind" sOpenKind ["node"] 1 (spOpenK K) := by
  refine Has.mk0 D.aOpenKind scOpenKind (fun _ _ _ _ _ _ us hl => match us, hl with | [_], _ => rfl) (fun vs H Q E h => ?_) (fun cdv A outer s H vs Q E hr h => ?_)
  · obtain ⟨v, h, r, rfl, _⟩ := h
    rfl
  · obtain ⟨v, h, r, rfl, hd, k⟩ := h
    refine ⟨_, (pss_cons (ps_if (pt_cmpR op_eq (pe_ix ix_tup (pv 0) pe_int (fun _ _ => rfl)) pe_str (nomark _))
        (pss_one (ps_ret (pe_ifExp (pt_cmpR op_eq (pe_callB call_len_seq (by rfl) T.len PySem.boot_len (pa_cons (pv 0) pa_nil)) pe_int (nomark _)) pe_str pe_non)))
        pss_nil)
      (pss_cons (ps_if (pt_cmpR op_eq (pe_ix ix_tup (pv 0) pe_int (fun _ _ => rfl)) pe_str (nomark _))
        (pss_one (ps_ret (pe_ifExp (pt_cmpR op_eq (pe_callB call_len_seq (by rfl) T.len PySem.boot_len (pa_cons (pv 0) pa_nil)) pe_int (nomark _)) pe_str pe_non)))
        pss_nil)
      (pss_one (ps_ret (pe_ifExp (PW.pt (pw_and (pt_cmpR op_in_seq (pe_ix ix_tup (pv 0) pe_int (fun _ _ => rfl)) (pe_glob (v := .ref (ga K "OPERATIONS")) (by rfl) W.ops rfl) (by rfl)) (pw_and1 (pt_cmpR op_eq (pe_callB call_len_seq (by rfl) T.len PySem.boot_len (pa_cons (pv 0) pa_nil)) pe_int (nomark _))))) pe_str pe_non))))), ?_⟩
    obtain ⟨a, xs, rfl, t⟩ := hd.tupD
    obtain ⟨v0, e0, h0⟩ := t.get 0 rfl
    cases h0
    have hl : xs.length = r.length + 1 := by rw [t.len, List.length_cons]
    have len : ∀ n : Nat, decide (V.int (xs.length : Nat) = V.int ((n : Int) + 1)) = decide (r.length = n) := fun n => by
      rw [hl]
      by_cases e : r.length = n
      · rw [decide_eq_true e, e]
        simp
      · rw [decide_eq_false e]
        refine decide_eq_false fun z => e ?_
        have z := V.int.inj z
        omega
    refine ⟨_, rfl, a, xs, _, _, rfl, rfl, t.at_, e0, rfl, _, rfl, ?_⟩
    refine ite2 (fun c => ?_) (fun c => ?_)
    · have c1 : h = "name" := V.str.inj (of_decide_eq_true c)
      refine ⟨_, rfl, a, xs, rfl, .inr t.at_, rfl, _, rfl, ?_⟩
      have l := len 1
      unfold opV opK at k
      rw [if_pos c1] at k
      refine ite2 (fun c2 => ?_) (fun c2 => ?_)
      · rw [if_pos (of_decide_eq_true (l.symm.trans c2))] at k
        exact k
      · rw [if_neg (fun z => c2 (l.trans (decide_eq_true z)))] at k
        exact k
    · have n1 : ¬ h = "name" := fun z => c (decide_eq_true (by rw [z]))
      refine ⟨_, rfl, a, xs, _, _, rfl, rfl, t.at_, e0, rfl, _, rfl, ?_⟩
      refine ite2 (fun c => ?_) (fun c => ?_)
      · have c1 : h = "each" := V.str.inj (of_decide_eq_true c)
        refine ⟨_, rfl, a, xs, rfl, .inr t.at_, rfl, _, rfl, ?_⟩
        have l := len 4
        unfold opV opK at k
        rw [if_neg n1, if_pos c1] at k
        refine ite2 (fun c2 => ?_) (fun c2 => ?_)
        · rw [if_pos (of_decide_eq_true (l.symm.trans c2))] at k
          exact k
        · rw [if_neg (fun z => c2 (l.trans (decide_eq_true z)))] at k
          exact k
      · have n2 : ¬ h = "each" := fun z => c (decide_eq_true (by rw [z]))
        unfold opV opK at k
        rw [if_neg n1, if_neg n2] at k
        refine ⟨_, rfl, a, xs, _, _, rfl, rfl, t.at_, e0, _, _, rfl, .inr (W.opsT _), rfl, flat_strs _, _, rfl, ?_⟩
        refine ite2 (fun c2 => ?_) (fun c2 => ?_)
        · have c2 : inV (.str h) (Exq.opsN.map V.str) = true := c2
          rw [inV_strs] at c2
          refine ⟨_, rfl, a, xs, rfl, .inr t.at_, rfl, _, rfl, ?_⟩
          have l := len 2
          refine ite2 (fun c3 => ?_) (fun c3 => ?_)
          · rw [if_pos ⟨of_decide_eq_true c2, of_decide_eq_true (l.symm.trans c3)⟩] at k
            exact k
          · rw [if_neg (fun z => c3 (l.trans (decide_eq_true z.2)))] at k
            exact k
        · have c2 : ¬ inV (.str h) (Exq.opsN.map V.str) = true := c2
          rw [inV_strs] at c2
          rw [if_neg (fun z => c2 (decide_eq_true z.1))] at k
          exact k
end
end Any
set_option Elab.async false
set_option linter.all false
set_option maxRecDepth 100000
set_option maxHeartbeats 4000000
/-! Programs: their variables, parts, and whether it is one. -/
namespace Any
open PySem PySem.Spec PyProof.Rows L2 RT
open He (ga ma)
/-! ### the mathematics -/
def strsD (ns : List PyData) : List Str := ns.filterMap fun | .str s => some s | _ => none
def headsD (ps : List PyData) : List Str := ps.filterMap fun | .tuple (.str s :: _) => some s | _ => none
def varsD : PyData → Bool
  | .tuple ns => (decide ((1 : Int) ≤ (ns.length : Int)) && decide ((ns.length : Int) ≤ 4)) && (ns.all nmD && decide (strsD ns).Nodup)
  | _ => false
theorem varsD_tup (ns : List PyData) : varsD (.tuple ns) = ((decide ((1 : Int) ≤ (ns.length : Int)) && decide ((ns.length : Int) ≤ 4)) && (ns.all nmD && decide (strsD ns).Nodup)) := rfl
def pairD : PyData → Bool
  | .tuple [x, _] => nmD x
  | _ => false
def partsD : PyData → Bool
  | .tuple ps => decide ((ps.length : Int) ≤ 6) && (ps.all pairD && decide (headsD ps).Nodup)
  | _ => false
abbrev ownNames (e : PyData) : List Str := namesW ["name", "set", "each"] e
abbrev calls (e : PyData) : List Str := namesW ["call"] e
/-- parts one behind another: each an expression, of the variables, its calls ahead -/
def progL (vs : List Str) : List Str → List PyData → Bool
  | _, [] => true
  | ahead, .tuple [.str n, e] :: r => exD e && ((ownNames e).all (fun x => decide (x ∈ vs)) && ((calls e).all (fun x => decide (x ∈ ahead)) && progL vs (ahead ++ [n]) r))
  | _, _ :: _ => false
def partsL (ps : List PyData) (body : PyData) : List PyData := ps ++ [.tuple [.str "body", body]]
def progD : PyData → Bool
  | .tuple [.str w, .tuple ns, .tuple ps, body] => decide (w = "program") && (varsD (.tuple ns) && (partsD (.tuple ps) && progL (strsD ns) [] (partsL ps body)))
  | _ => false
theorem nms_map {ns : List PyData} (h : ns.all nmD = true) : ns = (strsD ns).map PyData.str := by
  induction ns with
  | nil => rfl
  | cons x ns ih =>
    simp only [List.all_cons, Bool.and_eq_true] at h
    obtain ⟨s, rfl, _⟩ := nmD_str h.1
    show _ = PyData.str s :: (strsD ns).map PyData.str
    rw [← ih h.2]
theorem dx_strs {K : PySem.W.Frag} {H : Hp} : ∀ {zs : List Str} {xs : List V}, DxAll K H xs (zs.map PyData.str) → xs = zs.map V.str
  | [], _, .nil => rfl
  | z :: zs, _, .cons h r => by
    cases h
    rw [dx_strs r]
    rfl
theorem nodup_len {xs ys : List Str} (nx : xs.Nodup) (m : ∀ j, j ∈ xs ↔ j ∈ ys) : (xs.length = ys.length ↔ ys.Nodup) := by
  constructor
  · intro e
    exact dup_of_len ys.length xs ys nx m (Nat.le_refl _) (Nat.le_of_eq e.symm)
  · intro ny
    exact Nat.le_antisymm (len_sub nx fun j hj => (m j).mp hj) (len_sub ny fun j hj => (m j).mpr hj)
where
  len_sub : ∀ {xs ys : List Str}, xs.Nodup → (∀ j ∈ xs, j ∈ ys) → xs.length ≤ ys.length
  | [], _, _, _ => Nat.zero_le _
  | x :: xs, ys, nd, h => by
    obtain ⟨n1, n2⟩ := List.nodup_cons.mp nd
    have hx := h x (List.mem_cons_self ..)
    have : xs.length ≤ (ys.erase x).length := len_sub n2 fun j hj => by
      have := h j (List.mem_cons_of_mem _ hj)
      exact (List.mem_erase_of_ne (fun e : j = x => n1 (by rw [← e]; exact hj))).mpr this
    rw [List.length_erase_of_mem hx] at this
    have p := List.length_pos_of_mem hx
    simp only [List.length_cons]
    omega
  dup_of_len : ∀ (n : Nat) (xs ys : List Str), xs.Nodup → (∀ j, j ∈ xs ↔ j ∈ ys) → ys.length ≤ n → ys.length ≤ xs.length → ys.Nodup
  | n, xs, [], _, _, _, _ => List.nodup_nil
  | 0, _, _ :: _, _, _, h, _ => by simp at h
  | n + 1, xs, y :: ys, nd, m, hn, hl => by
    have hy : y ∈ xs := (m y).mpr (List.mem_cons_self ..)
    have no : y ∉ ys := fun hy2 => by
      have : xs.length ≤ ys.length := len_sub nd fun j hj => by
        rcases List.mem_cons.mp ((m j).mp hj) with rfl | q
        · exact hy2
        · exact q
      simp only [List.length_cons] at hl
      omega
    refine List.nodup_cons.mpr ⟨no, dup_of_len n (xs.erase y) ys (nd.erase y) (fun j => ?_) (by simpa using hn) ?_⟩
    · constructor
      · intro hj
        have hj2 : j ∈ xs := List.mem_of_mem_erase hj
        rcases List.mem_cons.mp ((m j).mp hj2) with rfl | q
        · exact absurd hj (fun z => (List.Nodup.not_mem_erase nd) z)
        · exact q
      · intro hj
        exact (List.mem_erase_of_ne (fun e : j = y => no (by rw [← e]; exact hj))).mpr ((m j).mpr (List.mem_cons_of_mem _ hj))
    · rw [List.length_erase_of_mem hy]
      simp only [List.length_cons] at hl
      omega
/-! ### comprehensions of truths -/
theorem lc_truths {K : PySem.W.Frag} {J : It} {G : Hp → Prop} {H1 : Hp} {xs : List V} {ds : List PyData} {Dn : Addr} {σ : L2.St} {vs : List Nat} {i : Nat} {te : TE} {Qd : Hp → Prop} (w : Walk J xs.length G (YAt xs)) (hG : ∀ H', Same H1 H' → G H') (all : DxAll K H1 xs ds) (hD : H1 Dn = none) (f : PyData → Bool) (small : ds.length ≤ 100000)
    (hs : ∀ (x : V) (d : PyData) (Hc : Hp) (Q : VK), Dx K Hc x d → d ∈ ds → Same H1 Hc → (∀ H', Same Hc H' → Q (.bl (f d)) H') → te ((wipe σ vs).set i (some x)) Hc Q)
    (hw : ∀ x, wipe ((wipe σ vs).set i (some x)) vs = wipe σ vs) (hd : ∀ H', Same H1 H' → H' Dn = some (.lst ((ds.map f).map V.bl)) → Qd H') :
    ∃ W : Nat → Nat → Hp → Prop, (∃ m, W 0 m (upd H1 Dn (.lst []))) ∧ ∀ k m H, W k m H →
      (J.stop k H ∧ Qd H) ∨ (J.go k H ∧ ∃ Nx : Hp → Prop, (∀ H', Nx H' → ∃ m', m' < m ∧ W (k + 1) m' H') ∧ ∀ x H', J.yld k H x H' → gName i x (wipe σ vs) H' fun σ2 H2 => wipe σ2 vs = wipe σ vs ∧ tYes σ2 H2 fun b H3 =>
        if b = true then te σ2 H3 fun y H4 => ∃ acc, H4 Dn = some (.lst acc) ∧ acc.length < sizeLine ∧ Nx (upd H4 Dn (.lst (acc ++ [y]))) else Nx H3) := by
  have len := DxAll.len all
  refine lc_it w (fun k Hc => Same H1 Hc ∧ Hc Dn = some (.lst (((ds.take k).map f).map V.bl))) ⟨snew hD, upd_same⟩ (fun _ _ _ q => hG _ q.1) ?_ ?_
  · rintro k x Hc Hc' hk ⟨q1, q2⟩ ⟨rfl, hx⟩
    obtain ⟨d, hd', hxd⟩ := DxAll.atV all hx
    refine ⟨hw x, yes_if (hs x d _ _ (dxSame q1 _ _ hxd) (List.mem_of_getElem? hd') q1 fun H' s' => ⟨_, s' _ _ q2, ?_, upd_same_new (q1.trans s') hD, ?_⟩)⟩
    · rw [List.length_map, List.length_map, List.length_take, sizeLine_eq]
      omega
    · rw [upd_same, List.take_succ, hd', List.map_append, List.map_append]
      rfl
  · rintro Hc ⟨q1, q2⟩
    rw [len, List.take_length] at q2
    exact hd Hc q1 q2
theorem all_id {α : Type} (l : List α) (f : α → Bool) : (l.map f).all id = l.all f := by
  rw [List.all_map]
  rfl
def spVars (K : PySem.W.Frag) : Sp := fun vs H Q _ => ∃ v d, vs = [v] ∧ Dx K H v d ∧ wt d < 16000 ∧ ∀ H', Same H H' → Q (.bl (varsD d)) H'
section
variable {P : Program} {w : World} {K : PySem.W.Frag} {mg : Str → Option Value} {base : Heap}
theorem scAreVariables : FnScope ["thing", "name"] ["thing"] (defScope sAreVariables) := ⟨rfl, rfl, rfl, by decide +kernel, rfl, by decide +kernel, by decide +kernel⟩
theorem hAreVariables (D : DS K mg) (T : TF mg) (B : TW K mg) : Has P w K mg base CX0 "are_variables" sAreVariables ["thing"] 2 (spVars K) := by
  have hIsName : Has P w K mg base CX0 _ _ _ 1 _ := hIsName D T B
  refine Has.mk0 D.aAreVariables scAreVariables (fun _ _ _ _ _ _ us hl => match us, hl with | [_], _ => rfl) (fun vs H Q E h => ?_) (fun cdv A outer s H vs Q E hr h => ?_)
  · obtain ⟨v, d, rfl, _⟩ := h
    rfl
  · obtain ⟨v, d, rfl, hd, hw, k⟩ := h
    refine ⟨_, (pss_cons (ps_if (PW.pt (pw_or (pt_not (pt_val (pe_callB call_isi (by rfl) T.isinstance (by decide +kernel) (pa_cons (pv 0) (pa_cons (pe_bltn (v := .ty "tuple") (by rfl) T.tuple (by decide +kernel) rfl) pa_nil))))) (pw_or1 (pt_not (pt_chain op_le op_le pe_int (pe_callB call_len_seq (by rfl) T.len PySem.boot_len (pa_cons (pv 0) pa_nil)) pe_int)))))
        (pss_one (ps_ret pe_bl))
        pss_nil)
      (pss_one (ps_ret (pe_and (pe_callB (call_allL rfl) (by rfl) T.all (by decide +kernel) (pa_cons (pe_lc (own := [("name", 1)]) (g := (gName 1)) rfl scAreVariables.nd (pi_tup (pv 0)) (blkOk_by (own := [("name", 1)]) (N := ["thing", "name"]) (sc := defScope sAreVariables) (by decide +kernel)) (fun _ _ _ _ _ => (pg_name (i := 1) scAreVariables.nd rfl (Or.inl rfl))) (fun _ _ _ _ _ => pts_nil) (fun _ _ _ _ _ => (pe_fn hIsName (hr.mono (by decide)) (by rfl) (pa_cons (pv 1) pa_nil)))) pa_nil)) (pe_one (pe_cmpR op_eq (pe_callB call_lenS (by rfl) T.len PySem.boot_len (pa_cons (pe_callTy (cr_setS rfl) (by rfl) T.set (by decide +kernel) (pa_cons (pv 0) pa_nil)) pa_nil)) (pe_callB call_len_seq (by rfl) T.len PySem.boot_len (pa_cons (pv 0) pa_nil)) (nomark _))))))), ?_⟩
    refine ⟨_, rfl, _, _, _, _, _, rfl, .ty "tuple", hd.ty, kit_ty (kit_tuple d), _, rfl, ?_⟩
    by_cases it : ∃ ns, d = .tuple ns
    · obtain ⟨ns, rfl⟩ := it
      refine iteF ?_
      obtain ⟨a, xs, rfl, t⟩ := hd.tupD
      have hl : xs.length = ns.length := t.len
      have stop : (decide ((1 : Int) ≤ (ns.length : Int)) && decide ((ns.length : Int) ≤ 4)) = false → Q (.bl false) H := fun e => by
        have := k H rsame
        rw [varsD_tup, e, Bool.false_and] at this
        exact this
      refine ⟨_, rfl, a, xs, rfl, .inr t.at_, _, _, rfl, rfl, _, rfl, ?_⟩
      rw [hl]
      refine ite2 (fun c1 => ?_) (fun c1 => ?_)
      · refine ⟨_, _, rfl, rfl, _, rfl, ?_⟩
        refine ite2 (fun c2 => ?_) (fun c2 => ?_)
        · have c2' : ¬ (ns.length : Int) ≤ 4 := by simpa using c2
          exact stop (by rw [decide_eq_false c2', Bool.and_false])
        · have c2' : (ns.length : Int) ≤ 4 := by simpa using c2
          have lens : (decide ((1 : Int) ≤ (ns.length : Int)) && decide ((ns.length : Int) ≤ 4)) = true := by rw [c1, decide_eq_true c2']; rfl
          refine ⟨_, rfl, a, rfl, ⟨_, t.at_⟩, fun Dn hDn => lc_truths (K := K) walk_tup (fun H' s' => Dx.sameT s' t.at_) t.all hDn nmD (by omega) ?_ (fun x => rfl) ?_⟩
          · intro x d Hc Q' hx hm s1 k'
            have hwd := wtA_mem hm
            simp only [wt] at hw
            exact ⟨_, rfl, x, d, rfl, hx, wt_str (by omega), k'⟩
          · intro H' s1 e1
            refine ⟨Dn, _, rfl, SqL.of e1, _, rfl, ?_⟩
            rw [all_id]
            have spec : ∀ H'', Same H H'' → Q (.bl (ns.all nmD && decide (strsD ns).Nodup)) H'' := fun H'' s'' => by
              have := k H'' s''
              rw [varsD_tup, lens, Bool.true_and] at this
              exact this
            refine ite2 (fun c3 => ?_) (fun c3 => ?_)
            · have em := nms_map c3
              have t1 := t.same s1
              have ev : xs = (strsD ns).map V.str := dx_strs (by rw [← em]; exact t.all)
              refine ⟨_, rfl, a, strsD ns, rfl, .inr (by rw [← ev]; exact t1.at_), ?_, fun b hb => ⟨b, strsD ns, rfl, upd_same, fun ks nd mem => ?_⟩⟩
              · have : (strsD ns).length ≤ ns.length := List.length_filterMap_le ..
                omega
              have s2 : Same H (upd H' b (StsO P w b (strsD ns))) := s1.trans (snew hb)
              refine ⟨_, rfl, a, xs, rfl, .inr (t.same s2).at_, rfl, ?_⟩
              have := spec _ s2
              rw [c3, Bool.true_and] at this
              have e2 : decide (V.int (ks.length : Nat) = V.int (xs.length : Nat)) = decide (strsD ns).Nodup := by
                have l1 : xs.length = (strsD ns).length := by rw [ev, List.length_map]
                rw [l1, decide_eq_decide, ← nodup_len nd mem]
                exact ⟨fun z => Int.ofNat.inj (V.int.inj z), fun z => by rw [z]⟩
              rw [← e2] at this
              exact this
            · have := spec _ s1
              rw [Bool.eq_false_iff.mpr c3, Bool.false_and] at this
              exact this
      · have c1' : ¬ (1 : Int) ≤ (ns.length : Int) := by simpa using c1
        exact ⟨_, rfl, stop (by rw [decide_eq_false c1']; rfl)⟩
    · have e1 : isTy "tuple" d = false := by
        cases d with
        | tuple ns => exact absurd ⟨ns, rfl⟩ it
        | _ => rfl
      have e2 : varsD d = false := by
        cases d with
        | tuple ns => exact absurd ⟨ns, rfl⟩ it
        | _ => rfl
      rw [e1]
      refine iteT ?_
      have := k H rsame
      rw [e2] at this
      exact this
def spParts (K : PySem.W.Frag) : Sp := fun vs H Q _ => ∃ v d, vs = [v] ∧ Dx K H v d ∧ wt d < 16000 ∧ ∀ H', Same H H' → Q (.bl (partsD d)) H'
theorem partsD_tup (ps : List PyData) : partsD (.tuple ps) = (decide ((ps.length : Int) ≤ 6) && (ps.all pairD && decide (headsD ps).Nodup)) := rfl
theorem pairD_of {d : PyData} (h : pairD d = true) : ∃ s e, d = .tuple [.str s, e] ∧ isNm s = true := by
  unfold pairD at h
  split at h
  · obtain ⟨s, rfl, n⟩ := nmD_str h
    exact ⟨s, _, rfl, n⟩
  · cases h
theorem pairD_not {ds : List PyData} (h : (ds.length : Int) ≠ 2) : pairD (.tuple ds) = false := by
  unfold pairD
  split
  · rename_i e
    cases e
    exact absurd rfl h
  · rfl
theorem heads_len : ∀ {ps : List PyData}, ps.all pairD = true → (headsD ps).length = ps.length
  | [], _ => rfl
  | p :: ps, h => by
    simp only [List.all_cons, Bool.and_eq_true] at h
    obtain ⟨s, e, rfl, _⟩ := pairD_of h.1
    show (headsD ps).length + 1 = _
    rw [heads_len h.2]
    rfl
theorem scAreParts : FnScope ["thing", "pair"] ["thing"] (defScope sAreParts) := ⟨rfl, rfl, rfl, by decide +kernel, rfl, by decide +kernel, by decide +kernel⟩
theorem hAreParts (D : DS K mg) (T : TF mg) (B : TW K mg) : Has P w K mg base CX0 "are_parts" sAreParts ["thing"] 2 (spParts K) := by
  have hIsName : Has P w K mg base CX0 _ _ _ 1 _ := hIsName D T B
  have hIsRow : Has P w K mg base CX0 _ _ _ 1 _ := hIsRow D T
  refine Has.mk0 D.aAreParts scAreParts (fun _ _ _ _ _ _ us hl => match us, hl with | [_], _ => rfl) (fun vs H Q E h => ?_) (fun cdv A outer s H vs Q E hr h => ?_)
  · obtain ⟨v, d, rfl, _⟩ := h
    rfl
  · obtain ⟨v, d, rfl, hd, hw, k⟩ := h
    refine ⟨_, (pss_cons (ps_if (PW.pt (pw_or (pt_not (pt_val (pe_callB call_isi (by rfl) T.isinstance (by decide +kernel) (pa_cons (pv 0) (pa_cons (pe_bltn (v := .ty "tuple") (by rfl) T.tuple (by decide +kernel) rfl) pa_nil))))) (pw_or1 (pt_cmpR op_gt (pe_callB call_len_seq (by rfl) T.len PySem.boot_len (pa_cons (pv 0) pa_nil)) pe_int (nomark _)))))
        (pss_one (ps_ret pe_bl))
        pss_nil)
      (pss_cons (ps_if (pt_not (pt_val (pe_callB (call_allL rfl) (by rfl) T.all (by decide +kernel) (pa_cons (pe_lc (own := [("pair", 1)]) (g := (gName 1)) rfl scAreParts.nd (pi_tup (pv 0)) (blkOk_by (own := [("pair", 1)]) (N := ["thing", "pair"]) (sc := defScope sAreParts) (by decide +kernel)) (fun _ _ _ _ _ => (pg_name (i := 1) scAreParts.nd rfl (Or.inl rfl))) (fun _ _ _ _ _ => pts_nil) (fun _ _ _ _ _ => (pe_and (pe_fn hIsRow (hr.mono (by decide)) (by rfl) (pa_cons (pv 1) (pa_cons pe_int pa_nil))) (pe_one (pe_fn hIsName (hr.mono (by decide)) (by rfl) (pa_cons (pe_ix (ix_tupK (K := K) rfl) (pv 1) pe_int (fun _ _ => rfl)) pa_nil)))))) pa_nil))))
        (pss_one (ps_ret pe_bl))
        pss_nil)
      (pss_one (ps_ret (pe_cmpR op_eq (pe_callB call_lenS (by rfl) T.len PySem.boot_len (pa_cons (pe_callTy (cr_setS rfl) (by rfl) T.set (by decide +kernel) (pa_cons (pe_lc (own := [("pair", 1)]) (g := (gName 1)) rfl scAreParts.nd (pi_tup (pv 0)) (blkOk_by (own := [("pair", 1)]) (N := ["thing", "pair"]) (sc := defScope sAreParts) (by decide +kernel)) (fun _ _ _ _ _ => (pg_name (i := 1) scAreParts.nd rfl (Or.inl rfl))) (fun _ _ _ _ _ => pts_nil) (fun _ _ _ _ _ => (pe_ix (ix_tupK (K := K) rfl) (pv 1) pe_int (fun _ _ => rfl)))) pa_nil)) pa_nil)) (pe_callB call_len_seq (by rfl) T.len PySem.boot_len (pa_cons (pv 0) pa_nil)) (nomark _)))))), ?_⟩
    refine ⟨_, rfl, _, _, _, _, _, rfl, .ty "tuple", hd.ty, kit_ty (kit_tuple d), _, rfl, ?_⟩
    by_cases it : ∃ ps, d = .tuple ps
    · obtain ⟨ps, rfl⟩ := it
      refine iteF ?_
      obtain ⟨a, xs, rfl, t⟩ := hd.tupD
      have hl : xs.length = ps.length := t.len
      refine ⟨_, rfl, a, xs, rfl, .inr t.at_, _, _, rfl, rfl, _, rfl, ?_⟩
      rw [hl]
      refine ite2 (fun c1 => ?_) (fun c1 => ?_)
      · have c1 := of_decide_eq_true c1
        have := k H rsame
        rw [partsD_tup, decide_eq_false (show ¬ (ps.length : Int) ≤ 6 by omega), Bool.false_and] at this
        exact this
      · have c1 : (ps.length : Int) ≤ 6 := by
          by_cases z : (ps.length : Int) ≤ 6
          · exact z
          · exact absurd (decide_eq_true (show (6 : Int) < (ps.length : Int) by omega)) c1
        have spec : ∀ H'', Same H H'' → Q (.bl (ps.all pairD && decide (headsD ps).Nodup)) H'' := fun H'' s'' => by
          have := k H'' s''
          rw [partsD_tup, decide_eq_true c1, Bool.true_and] at this
          exact this
        have wm : ∀ d ∈ ps, wt d < 16000 := fun d hm => by
          have := wtA_mem hm
          simp only [wt] at hw
          omega
        refine ⟨_, rfl, a, rfl, ⟨_, t.at_⟩, fun Dn hDn => lc_truths (K := K) walk_tup (fun H' s' => Dx.sameT s' t.at_) t.all hDn pairD (by omega) ?_ (fun x => rfl) ?_⟩
        · intro x d Hc Q' hx hm s1 k'
          refine ⟨_, rfl, x, d, 2, rfl, hx, _, rfl, ?_⟩
          refine ite2 (fun c2 => ?_) (fun c2 => ?_)
          · cases d with
            | tuple es =>
              have l2 : es.length = 2 := by
                have : (es.length : Int) = 2 := of_decide_eq_true c2
                omega
              obtain ⟨y, e, rfl⟩ := len2 l2
              obtain ⟨b, zs, rfl, tb⟩ := hx.tupD
              obtain ⟨v0, e0, h0⟩ := tb.get 0 rfl
              have wy : wt y ≤ 100000 := by
                have := wm _ hm
                simp only [wt, wtA] at this
                omega
              exact ⟨_, rfl, b, zs, _, _, rfl, rfl, tb.at_, e0, v0, y, rfl, h0, wt_str wy, k'⟩
            | _ => cases c2
          · have e2 : pairD d = false := by
              cases d with
              | tuple es => exact pairD_not fun z => c2 (decide_eq_true z)
              | _ => rfl
            have := k' Hc rsame
            rw [e2] at this
            exact this
        · intro H1 s1 e1
          refine ⟨Dn, _, rfl, SqL.of e1, _, rfl, ?_⟩
          rw [all_id]
          cases c3 : ps.all pairD with
          | false =>
            refine iteT ?_
            have := spec H1 s1
            rw [c3, Bool.false_and] at this
            exact this
          | true =>
            refine iteF ?_
            have t1 := t.same s1
            have hall := List.all_eq_true.mp c3
            refine ⟨_, rfl, a, rfl, ⟨_, t1.at_⟩, fun Dm hDm => lc_it (walk_tup (K := K) (a := a) (xs := xs)) (fun i Hc => Same H1 Hc ∧ Hc Dm = some (.lst ((headsD (ps.take i)).map V.str))) ⟨snew hDm, upd_same⟩ (fun _ _ _ q => Dx.sameT q.1 t1.at_) ?_ ?_⟩
            · rintro i x Hc Hc' hi ⟨q1, q2⟩ ⟨rfl, hx⟩
              obtain ⟨d, hd', hxd⟩ := DxAll.atV t1.all hx
              obtain ⟨z, e, rfl, _⟩ := pairD_of (hall d (List.mem_of_getElem? hd'))
              obtain ⟨b, zs, rfl, tb⟩ := (dxSame q1 _ _ hxd).tupD
              obtain ⟨v0, e0, h0⟩ := tb.get 0 rfl
              cases h0
              refine ⟨rfl, yes_if ⟨_, rfl, b, zs, _, _, rfl, rfl, tb.at_, e0, _, q2, ?_, upd_same_new q1 hDm, ?_⟩⟩
              · rw [List.length_map]
                refine small1000 ?_
                have h1 : (headsD (ps.take i)).length ≤ (ps.take i).length := List.length_filterMap_le ..
                rw [List.length_take] at h1
                omega
              · have tk : ps.take (i + 1) = ps.take i ++ [.tuple [.str z, e]] := by
                  rw [List.take_succ, hd']
                  rfl
                rw [upd_same, tk]
                unfold headsD
                rw [List.filterMap_append, List.map_append]
                rfl
            · rintro Hc ⟨q1, q2⟩
              rw [hl, List.take_length] at q2
              refine ⟨Dm, headsD ps, rfl, .inl (SqL.of q2), ?_, fun b hb => ⟨b, headsD ps, rfl, upd_same, fun ks nd mem => ?_⟩⟩
              · rw [heads_len c3]
                omega
              · have s2 : Same H (upd Hc b (StsO P w b (headsD ps))) := (s1.trans q1).trans (snew hb)
                refine ⟨_, rfl, a, xs, rfl, .inr (t.same s2).at_, rfl, ?_⟩
                have := spec _ s2
                rw [c3, Bool.true_and] at this
                have e2 : decide (V.int (ks.length : Nat) = V.int (xs.length : Nat)) = decide (headsD ps).Nodup := by
                  rw [hl, ← heads_len c3, decide_eq_decide, ← nodup_len nd mem]
                  exact ⟨fun z => Int.ofNat.inj (V.int.inj z), fun z => by rw [z]⟩
                rw [← e2] at this
                exact this
    · have e1 : isTy "tuple" d = false := by
        cases d with
        | tuple ns => exact absurd ⟨ns, rfl⟩ it
        | _ => rfl
      have e2 : partsD d = false := by
        cases d with
        | tuple ns => exact absurd ⟨ns, rfl⟩ it
        | _ => rfl
      rw [e1]
      refine iteT ?_
      have := k H rsame
      rw [e2] at this
      exact this
/-- a program's parts, the body last -/
def spPartsOf (K : PySem.W.Frag) : Sp := fun vs H Q _ => ∃ S v w0 ns ps body, vs = [v] ∧ Live S H ∧ Dx K (hidS S H) v (.tuple [w0, ns, .tuple ps, body]) ∧ ps.length ≤ 1000 ∧ ∀ p xs H', Same H H' → TupD K (hidS S H') p xs (partsL ps body) → Q (.ref p) H'
theorem scPartsOf : FnScope ["program"] ["program"] (defScope sPartsOf) := ⟨rfl, rfl, rfl, by decide +kernel, rfl, by decide +kernel, by decide +kernel⟩
theorem hPartsOf (D : DS K mg) (T : TF mg) : Has P w K mg base CX0 "parts_of" sPartsOf ["program"] 1 (spPartsOf K) := by
  refine Has.mk0 D.aPartsOf scPartsOf (fun _ _ _ _ _ _ us hl => match us, hl with | [_], _ => rfl) (fun vs H Q E h => ?_) (fun cdv A outer s H vs Q E hr h => ?_)
  · obtain ⟨S, v, w0, ns, ps, body, rfl, _⟩ := h
    rfl
  · obtain ⟨S, v, w0, ns, ps, body, rfl, lv, hd, hps, k⟩ := h
    refine ⟨_, (pss_one (ps_ret (pe_op op_catA (pe_ix ix_tup (pv 0) pe_int (fun _ _ => rfl)) (pe_tup (pa_cons (pe_tup (pa_cons pe_str (pa_cons (pe_ix ix_tup (pv 0) pe_int (fun _ _ => rfl)) pa_nil))) pa_nil))))), ?_⟩
    obtain ⟨a, xs, rfl, t⟩ := hd.tupD
    obtain ⟨v2, e2, h2⟩ := t.get 2 rfl
    obtain ⟨v3, e3, h3⟩ := t.get 3 rfl
    obtain ⟨b, ys, rfl, tb⟩ := h2.tupD
    have ta := Dx.sameT hid_same t.at_
    refine ⟨_, rfl, a, xs, _, _, rfl, rfl, ta, e2, _, rfl, a, xs, _, _, rfl, rfl, ta, e3, by show 2 ≤ sizeLine; decide, fun p1 hp1 => ⟨by show 1 ≤ sizeLine; decide, fun p2 hp2 => ?_⟩⟩
    have t1 := newH (K := K) lv hp1 (.cons (.str "body") (.cons h3 .nil))
    have lv1 : Live S (upd H p1 (.tup [.str "body", v3])) := lv.upd
    have t2 := newH lv1 hp2 (.cons t1.dx .nil)
    have s2 := (snew (o := .tup [.str "body", v3]) hp1).trans (snew (o := .tup [.ref p1]) hp2)
    exact cat_h lv1.upd ((Fr.of s2).tupD tb) t2 (by simp only [List.length_cons, List.length_nil]; omega) fun p zs H' s3 t3 => k p zs H' (s2.trans s3) t3
end
end Any
set_option Elab.async false
set_option linter.all false
set_option maxRecDepth 100000
set_option maxHeartbeats 4000000
/-! names_only. -/
namespace Any
open PySem PySem.Spec PyProof.Rows L2 RT
open He (ga ma)
/-! ### the mathematics -/
theorem nodesN_sp : ∀ (n : Nat) (p : List Nat) (d : PyData), (nodesN n p d).map (·.2) = (nodesN n [] d).map (·.2)
  | 0, p, d => rfl
  | n + 1, p, d => by
    rcases Exq.headed d with ⟨h, r, rfl⟩ | no
    · show _ :: _ = _ :: _
      congr 1
      rw [List.map_flatMap, List.map_flatMap]
      congr 1
      funext i
      rw [nodesN_sp n (p ++ [i]), nodesN_sp n ([] ++ [i])]
    · by_cases hd : ∃ h r, d = .tuple (.str h :: r)
      · obtain ⟨h, r, rfl⟩ := hd
        show _ :: _ = _ :: _
        congr 1
        rw [List.map_flatMap, List.map_flatMap]
        congr 1
        funext i
        rw [nodesN_sp n (p ++ [i]), nodesN_sp n ([] ++ [i])]
      · rw [nodesN_else fun x r e => hd ⟨x, r, e⟩, nodesN_else fun x r e => hd ⟨x, r, e⟩]
        rfl
theorem names_sp (ws : List Str) (p : List Nat) (d : PyData) : (nodesL p d).filterMap (fun e => nameIn ws e.2) = namesW ws d := by
  have e : ∀ l : List (List Nat × PyData), l.filterMap (fun e => nameIn ws e.2) = (l.map (·.2)).filterMap (nameIn ws) := fun l => by
    rw [List.filterMap_map]
    rfl
  unfold namesW nodesL
  rw [e, e, nodesN_sp]
theorem namesW_sp (ws : List Str) (h : Str) (r : List PyData) : namesW ws (.tuple (.str h :: r)) = (nameIn ws (.tuple (.str h :: r))).toList ++ (kidsAt h).flatMap fun i => namesW ws ((PyData.str h :: r).getD i .none) := by
  have e : (kidsAt h).flatMap (fun i => namesW ws ((PyData.str h :: r).getD i .none)) = ((kidsAt h).flatMap fun i => nodesL ([] ++ [i]) ((PyData.str h :: r).getD i .none)).filterMap (fun e => nameIn ws e.2) := by
    rw [List.filterMap_flatMap]
    congr 1
    funext i
    rw [names_sp]
  rw [e]
  show (nodesL [] _).filterMap _ = _
  rw [nodesL_node, List.filterMap_cons]
  cases nameIn ws (.tuple (.str h :: r)) <;> rfl
/-- names of these alone, calls of these alone -/
def onlyB (vs ahead : List Str) (d : PyData) : Bool := (ownNames d).all (fun x => decide (x ∈ vs)) && (calls d).all (fun x => decide (x ∈ ahead))
theorem onlyB_node (vs ahead : List Str) (h : Str) (r : List PyData) : onlyB vs ahead (.tuple (.str h :: r)) =
    (((nameIn ["name", "set", "each"] (.tuple (.str h :: r))).toList.all (fun x => decide (x ∈ vs)) && (nameIn ["call"] (.tuple (.str h :: r))).toList.all (fun x => decide (x ∈ ahead))) && ((kidsAt h).map fun i => (PyData.str h :: r).getD i .none).all (onlyB vs ahead)) := by
  have go : ∀ l : List Nat, ((l.flatMap fun i => namesW ["name", "set", "each"] ((PyData.str h :: r).getD i .none)).all (fun x => decide (x ∈ vs)) && (l.flatMap fun i => namesW ["call"] ((PyData.str h :: r).getD i .none)).all (fun x => decide (x ∈ ahead))) = (l.map fun i => (PyData.str h :: r).getD i .none).all (onlyB vs ahead) := by
    intro l
    induction l with
    | nil => rfl
    | cons i l ih =>
      rw [List.flatMap_cons, List.flatMap_cons, List.all_append, List.all_append, List.map_cons, List.all_cons, ← ih]
      unfold onlyB ownNames calls
      ac_rfl
  unfold onlyB ownNames calls
  rw [namesW_sp, namesW_sp, List.all_append, List.all_append]
  have := go (kidsAt h)
  unfold onlyB ownNames calls at this
  rw [← this]
  ac_rfl
def spOnly (K : PySem.W.Frag) : Sp := fun vs H Q _ => ∃ (v : V) (d : PyData) (a l : Addr) (ns ahead : List Str), vs = [v, .ref a, .ref l] ∧ Dx K H v d ∧ exD d = true ∧ wt d ≤ 100000 ∧ SqT K H a (ns.map V.str) ∧ H l = some (.lst (ahead.map V.str)) ∧ ∀ H', Same H H' → Q (.bl (onlyB ns ahead d)) H'
section
variable {P : Program} {w : World} {K : PySem.W.Frag} {mg : Str → Option Value} {base : Heap}
theorem scNamesOnly : FnScope ["expression", "variables", "parts", "pending", "node", "at"] ["expression", "variables", "parts"] (defScope sNamesOnly) := ⟨rfl, rfl, rfl, by decide +kernel, rfl, by decide +kernel, by decide +kernel⟩
theorem hNamesOnly (D : DS K mg) (T : TF mg) (W : TT K w mg) : Has P w K mg base CX0 "names_only" sNamesOnly ["expression", "variables", "parts"] 2 (spOnly K) := by
  have hChildrenOf : Has P w K mg base CX0 _ _ _ 1 _ := hChildrenOf D T W
  refine Has.mk0 D.aNamesOnly scNamesOnly (fun _ _ _ _ _ _ us hl => match us, hl with | [_, _, _], _ => rfl) (fun vs H Q E h => ?_) (fun cdv A outer s H vs Q E hr h => ?_)
  · obtain ⟨v, d, a, l, ns, ahead, rfl, _⟩ := h
    rfl
  · obtain ⟨v, d, na, al, ns, ahead, rfl, hd, hex, hw, hna, hal, k⟩ := h
    refine ⟨_, (pss_cons (ps_set (i := 3) scNamesOnly.nd rfl (Or.inl rfl) (pe_lst (pa_cons (pv 0) pa_nil)))
      (pss_cons (ps_while PassesOwn.never (pt_truth (pv 3) (by intro _; rfl))
        (pss_cons (ps_set (i := 4) scNamesOnly.nd rfl (Or.inr rfl) (pe_bm0 PySem.F.plainAttrs_list PySem.F.slot_list_pop PySem.F.type_list_pop mt_pop (pv 3)))
        (pss_cons (ps_if (PW.pt (pw_and (pt_cmpR op_in_seq (pe_ix ix_tup (pv 4) pe_int (fun _ _ => rfl)) (pe_tup (pa_cons pe_str (pa_cons pe_str (pa_cons pe_str pa_nil)))) (by rfl)) (pw_and1 (pt_cmpR op_notIn_seq (pe_ix ix_tup (pv 4) pe_int (fun _ _ => rfl)) (pv 1) (by rfl)))))
          (pss_one (ps_ret pe_bl))
          pss_nil)
        (pss_cons (ps_if (PW.pt (pw_and (pt_cmpR op_eq (pe_ix ix_tup (pv 4) pe_int (fun _ _ => rfl)) pe_str (nomark _)) (pw_and1 (pt_cmpR op_notIn_seq (pe_ix ix_tup (pv 4) pe_int (fun _ _ => rfl)) (pv 2) (by rfl)))))
          (pss_one (ps_ret pe_bl))
          pss_nil)
        (pss_one (ps_expr (pe_bm PySem.F.plainAttrs_list PySem.F.slot_list_extend PySem.F.type_list_extend mt_extend (pv 3) (pa_cons (pe_lc (own := [("at", 5)]) (g := (gName 5)) rfl scNamesOnly.nd (pi_tup (pe_fn hChildrenOf (hr.mono (by decide)) (by rfl) (pa_cons (pv 4) pa_nil))) (blkOk_by (own := [("at", 5)]) (N := ["expression", "variables", "parts", "pending", "node", "at"]) (sc := defScope sNamesOnly) (by decide +kernel)) (fun _ _ _ _ _ => (pg_name (i := 5) scNamesOnly.nd rfl (Or.inl rfl))) (fun _ _ _ _ _ => pts_nil) (fun _ _ _ _ _ => (pe_ix (ix_tupK (K := K) rfl) (pv 4) (pv 5) (fun _ _ => rfl)))) pa_nil))))))))
      (pss_one (ps_ret pe_bl)))), ?_⟩
    refine ⟨_, rfl, by show 1 ≤ sizeLine; decide, fun L hL => ?_⟩
    have N0 : Exq.sizeOfEx d ≤ 100000 := Nat.le_trans (size_wt d) hw
    refine ⟨fun m σ H2 => ∃ (vs : List V) (ds : List PyData) (v4 v5 : Option V), σ = [some v, some (.ref na), some (.ref al), some (.ref L), v4, v5] ∧ H2 L = some (.lst vs) ∧ DxAll K H vs ds ∧ (∀ d ∈ ds, exD d = true) ∧ (ds.all (onlyB ns ahead) = onlyB ns ahead d) ∧ Same H H2 ∧ (ds.map Exq.sizeOfEx).sum = m ∧ m ≤ Exq.sizeOfEx d,
      ⟨_, [v], [d], none, none, rfl, upd_same, .cons hd .nil, fun e he => by rw [List.mem_singleton.mp he]; exact hex, by simp, snew hL, rfl, by simp⟩, ?_⟩
    rintro m σ H2 ⟨vs, ds, v4, v5, rfl, hL2, hA, hW, hE, sH, rfl, hm⟩
    refine ⟨_, rfl, _, .inl ⟨vs, SqL.of hL2, rfl⟩, ?_⟩
    rcases List.eq_nil_or_concat vs with rfl | ⟨us, u, rfl⟩
    · -- nothing is left
      have e0 := DxAll.len hA
      have : ds = [] := List.length_eq_zero_iff.mp e0.symm
      subst this
      refine iteF ?_
      have := k H2 sH
      rw [← hE] at this
      exact this
    · obtain ⟨es, x, rfl⟩ : ∃ es x, ds = es ++ [x] := by
        have e0 := DxAll.len hA
        rcases List.eq_nil_or_concat ds with rfl | ⟨es, x, rfl⟩
        · simp at e0
        · exact ⟨es, x, List.concat_eq_append ..⟩
      rw [List.concat_eq_append] at hA hL2
      obtain ⟨us', ws, e1, hA1, hA2⟩ := DxAll.split hA
      obtain ⟨w1, e2⟩ : ∃ w1, ws = [w1] := by
        cases hA2 with
        | cons a r => cases r; exact ⟨_, rfl⟩
      subst e2
      obtain ⟨rfl, e3⟩ := List.append_inj' e1 rfl
      cases e3
      have hx : Dx K H u x := by
        cases hA2 with
        | cons a r => exact a
      have wx := hW x (List.mem_append_right _ (List.mem_singleton.mpr rfl))
      rw [List.concat_eq_append]
      have he : (!(us ++ [u]).isEmpty) = true := by simp
      rw [he]
      refine iteT ?_
      refine ⟨fun σ' H' => ∃ m', m' < _ ∧ _, fun _ _ h => h, ?_⟩
      refine ⟨_, rfl, .inl ⟨rfl, _, SqL.of hL2⟩, L, us ++ [u], u, rfl, rfl, hL2, by simp, ?_⟩
      have s3 : Same H (upd H2 L (.lst (us ++ [u]).dropLast)) := upd_same_new sH hL
      have hL3 : (upd H2 L (.lst (us ++ [u]).dropLast)) L = some (.lst us) := by rw [upd_same, List.dropLast_concat]
      generalize upd H2 L (.lst (us ++ [u]).dropLast) = H3 at *
      rw [all_snoc] at hE
      rw [List.map_append, List.sum_append] at hm
      simp only [List.map_cons, List.map_nil, List.sum_cons, List.sum_nil, Nat.add_zero] at hm
      obtain ⟨h, r, rfl, ok, kid⟩ := ex_node wx
      obtain ⟨km, kb⟩ := kids_map ok
      rw [onlyB_node] at hE
      obtain ⟨ax, xs, rfl, tx⟩ := hx.tupD
      have hl : xs.length = r.length + 1 := by rw [tx.len, List.length_cons]
      have t3 := tx.same s3
      obtain ⟨v0, e0, h0⟩ := t3.get 0 rfl
      cases h0
      have fail : ∀ H', Same H H' → ((nameIn ["name", "set", "each"] (.tuple (.str h :: r))).toList.all (fun x => decide (x ∈ ns)) && (nameIn ["call"] (.tuple (.str h :: r))).toList.all (fun x => decide (x ∈ ahead))) = false → Q (.bl false) H' := fun H' s' e => by
        have := k H' s'
        rw [← hE, e, Bool.false_and, Bool.and_false] at this
        exact this
      have nW : ∀ {ws : List Str} {z : Str} {r' : List PyData}, h ∈ ws → r = .str z :: r' → nameIn ws (.tuple (.str h :: r)) = some z := fun {ws z r'} m e => by
        subst e
        exact if_pos m
      have nN : ∀ {ws : List Str}, h ∉ ws → nameIn ws (.tuple (.str h :: r)) = none := fun {ws} m => by
        unfold nameIn
        split
        · rename_i q
          cases q
          exact if_neg m
        · rfl
      refine ⟨_, rfl, ax, xs, _, _, rfl, rfl, t3.at_, e0, by show 3 ≤ sizeLine; decide, fun t ht => ⟨_, _, rfl, .inr (SqT.of upd_same), rfl, flat_strs ["name", "set", "each"], _, rfl, ?_⟩⟩
      have sT : Same H3 (upd H3 t (.tup (([("name" : Str), "set", "each"] : List Str).map V.str))) := snew ht
      have s4 := s3.trans sT
      have hL4 := sT _ _ hL3
      have t4 := tx.same s4
      have ei : inV (V.str h) (([("name" : Str), "set", "each"] : List Str).map V.str) = decide (h ∈ [("name" : Str), "set", "each"]) := inV_strs h _
      change Same H3 (upd H3 t (.tup [V.str "name", V.str "set", V.str "each"])) at sT
      change Same H (upd H3 t (.tup [V.str "name", V.str "set", V.str "each"])) at s4
      change (upd H3 t (.tup [V.str "name", V.str "set", V.str "each"])) L = _ at hL4
      change TupD K (upd H3 t (.tup [V.str "name", V.str "set", V.str "each"])) _ _ _ at t4
      generalize upd H3 t (.tup [V.str "name", V.str "set", V.str "each"]) = H4 at sT s4 hL4 t4 ⊢
      -- the test of calls, and the parts
      refine (fun (rest : (nameIn ["name", "set", "each"] (.tuple (.str h :: r))).toList.all (fun x => decide (x ∈ ns)) = true → (?G : Hp → Prop) H4) => ?first) ?second
      case first =>
        refine ite2 (fun c => ?_) (fun c => ?_)
        · have c : inV (V.str h) (([("name" : Str), "set", "each"] : List Str).map V.str) = true := c
          rw [ei] at c
          have m := of_decide_eq_true c
          obtain ⟨z, r', er, _⟩ := named_node ok (by simp only [List.mem_cons, List.not_mem_nil, or_false] at m ⊢; rcases m with m | m | m <;> simp [m])
          have en := nW m er
          obtain ⟨v1, e1, h1⟩ := t4.get 1 (by rw [er]; rfl)
          cases h1
          refine ⟨_, rfl, ax, xs, _, _, rfl, rfl, t4.at_, e1, _, rfl, _, _, rfl, .inr (Dx.sameT s4 hna), rfl, flat_strs _, _, rfl, ?_⟩
          have ej : inV (V.str z) (ns.map V.str) = decide (z ∈ ns) := inV_strs z _
          rw [ej]
          cases cz : decide (z ∈ ns) with
          | false =>
            refine iteT ?_
            exact fail H4 s4 (by rw [en, Option.toList_some, List.all_cons, cz, Bool.false_and, Bool.false_and])
          | true =>
            refine iteF ?_
            exact rest (by rw [en, Option.toList_some, List.all_cons, cz]; rfl)
        · have c : ¬ inV (V.str h) (([("name" : Str), "set", "each"] : List Str).map V.str) = true := c
          rw [ei] at c
          exact rest (by rw [nN fun m => c (decide_eq_true m)]; rfl)
      case second =>
        intro ok1
        rw [ok1, Bool.true_and] at hE fail
        obtain ⟨v0, e0, h0⟩ := t4.get 0 rfl
        cases h0
        refine (fun (rest : (nameIn ["call"] (.tuple (.str h :: r))).toList.all (fun x => decide (x ∈ ahead)) = true → (?G2 : Hp → Prop) H4) => ?first2) ?second2
        case first2 =>
          refine ⟨_, rfl, ax, xs, _, _, rfl, rfl, t4.at_, e0, rfl, _, rfl, ?_⟩
          refine ite2 (fun c => ?_) (fun c => ?_)
          · have m : h = "call" := V.str.inj (of_decide_eq_true c)
            obtain ⟨z, r', er, _⟩ := named_node ok (by rw [m]; simp)
            have en := nW (ws := ["call"]) (by rw [m]; exact List.mem_cons_self ..) er
            obtain ⟨v1, e1, h1⟩ := t4.get 1 (by rw [er]; rfl)
            cases h1
            refine ⟨_, rfl, ax, xs, _, _, rfl, rfl, t4.at_, e1, _, rfl, _, _, rfl, .inl (SqL.of (s4 _ _ hal)), rfl, flat_strs _, _, rfl, ?_⟩
            have ej : inV (V.str z) (ahead.map V.str) = decide (z ∈ ahead) := inV_strs z _
            rw [ej]
            cases cz : decide (z ∈ ahead) with
            | false =>
              refine iteT ?_
              exact fail H4 s4 (by rw [en, Option.toList_some, List.all_cons, cz, Bool.false_and])
            | true =>
              refine iteF ?_
              exact rest (by rw [en, Option.toList_some, List.all_cons, cz]; rfl)
          · exact rest (by rw [nN fun m => c (decide_eq_true (by rw [List.mem_singleton.mp m]))]; rfl)
        case second2 =>
          intro ok2
          rw [ok2, Bool.true_and] at hE
          refine ⟨_, rfl, .inl ⟨rfl, _, SqL.of hL4⟩, _, rfl, _, h, r, rfl, t4.dx, fun b H5 s5 hb => ⟨b, rfl, ⟨_, hb⟩, fun Dn hDn => ?_⟩⟩
          have s05 := s4.trans s5
          have hL5 := s5 _ _ hL4
          have t5 := t4.same s5
          refine lc_it (walk_tup (K := K) (a := b) (xs := (kidsAt h).map fun (i : Nat) => V.int i)) (fun i Hc => Hc Dn = some (.lst (((kidsAt h).take i).map fun i => xs.getD i .non)) ∧ Same H5 Hc) ⟨upd_same, snew hDn⟩ (fun i Hc _ q => Dx.sameT q.2 hb) ?_ ?_
          · rintro i v Hc Hc' hi ⟨q1, q2⟩ ⟨rfl, hv⟩
            obtain ⟨j, hj, rfl⟩ := map_at hv
            have lj : j < xs.length := by rw [hl]; exact kb j (List.mem_of_getElem? hj)
            refine ⟨rfl, yes_if ⟨_, rfl, _, rfl, ax, xs, j, xs.getD j .non, rfl, rfl, (t5.same q2).at_, getD_at lj, _, q1, ?_, ?_, upd_same_new q2 hDn⟩⟩
            · refine small1000 ?_
              have := kidsAt_len h
              rw [List.length_map, List.length_take]
              omega
            · rw [upd_same, take_map_succ hj]
          · rintro Hc ⟨q1, q2⟩
            rw [List.length_map, List.take_length] at q1
            have zl := kidsAt_len h
            have el := len_sum es
            have ul := DxAll.len hA1
            refine ⟨L, Dn, _, _, rfl, rfl, q2 _ _ hL5, q1, ?_, ?_⟩
            · rw [List.length_map, sizeLine_eq]
              omega
            · have sz : Exq.sizeOfEx (.tuple (.str h :: r)) = 1 + ((Exq.kids h r).map Exq.sizeOfEx).sum := Exq.sizeOfEx_node h r
              refine ⟨_, ?_, _, es ++ (kidsAt h).map (fun i => (PyData.str h :: r).getD i .none), _, _, rfl, upd_same, DxAll.app hA1 ?_, ?_, ?_, upd_same_new (s05.trans q2) hL, rfl, ?_⟩
              · rw [km] at sz
                simp only [List.map_append, List.sum_append, List.map_cons, List.map_nil, List.sum_cons, List.sum_nil]
                omega
              · exact dxA_map tx.all _ fun i hi => by rw [List.length_cons]; exact kb i hi
              · intro e he
                rcases List.mem_append.mp he with he | he
                · exact hW e (List.mem_append_left _ he)
                · obtain ⟨i, hi, rfl⟩ := List.mem_map.mp he
                  exact (kid i hi).2
              · rw [List.all_append, ← hE]
              · rw [km] at sz
                simp only [List.map_append, List.sum_append]
                omega
end
end Any
set_option Elab.async false
set_option linter.all false
set_option maxRecDepth 100000
set_option maxHeartbeats 4000000
/-! is_program_with, is_program, is_expression. -/
namespace Any
open PySem PySem.Spec PyProof.Rows L2 RT
open He (ga ma)
theorem inV_names (x : Str) (ns : List Str) : inV (.str x) (ns.map V.str) = decide (x ∈ ns) := inV_strs x ns
/-- names told of a list: each among some, told by a comprehension over sorted names -/
theorem all_mem {ys zs : List Str} (m : ∀ j, j ∈ ys ↔ j ∈ zs) (f : Str → Bool) : ys.all f = zs.all f := by
  rw [Bool.eq_iff_iff, List.all_eq_true, List.all_eq_true]
  exact ⟨fun h x hx => h x ((m x).mpr hx), fun h x hx => h x ((m x).mp hx)⟩
/-- a comprehension over a list of texts that gives truths -/
theorem lc_texts {K : PySem.W.Frag} {H1 : Hp} {p : Addr} {ys : List Str} {Dn : Addr} {σ : L2.St} {vs : List Nat} {i : Nat} {te : TE} {Qd : Hp → Prop} (src : SqL K H1 p (ys.map V.str)) (hD : H1 Dn = none) (f : Str → Bool) (small : ys.length ≤ 100000)
    (hs : ∀ (x : Str) (Hc : Hp) (Q : VK), Same H1 Hc → (∀ H', Same Hc H' → Q (.bl (f x)) H') → te ((wipe σ vs).set i (some (.str x))) Hc Q)
    (hw : ∀ x, wipe ((wipe σ vs).set i (some x)) vs = wipe σ vs) (hd : ∀ H', Same H1 H' → H' Dn = some (.lst ((ys.map f).map V.bl)) → Qd H') :
    ∃ W : Nat → Nat → Hp → Prop, (∃ m, W 0 m (upd H1 Dn (.lst []))) ∧ ∀ k m H, W k m H →
      ((Itl K p).stop k H ∧ Qd H) ∨ ((Itl K p).go k H ∧ ∃ Nx : Hp → Prop, (∀ H', Nx H' → ∃ m', m' < m ∧ W (k + 1) m' H') ∧ ∀ x H', (Itl K p).yld k H x H' → gName i x (wipe σ vs) H' fun σ2 H2 => wipe σ2 vs = wipe σ vs ∧ tYes σ2 H2 fun b H3 =>
        if b = true then te σ2 H3 fun y H4 => ∃ acc, H4 Dn = some (.lst acc) ∧ acc.length < sizeLine ∧ Nx (upd H4 Dn (.lst (acc ++ [y]))) else Nx H3) := by
  have all : DxAll K H1 (ys.map V.str) (ys.map PyData.str) := by
    clear src small hd
    induction ys with
    | nil => exact .nil
    | cons y ys ih => exact .cons (.str y) ih
  have em : (ys.map PyData.str).map (fun d => match d with | .str x => f x | _ => false) = ys.map f := by
    rw [List.map_map]
    rfl
  refine lc_truths walk_list (fun H' s' => s'.seq src) all hD (fun d => match d with | .str x => f x | _ => false) (by rw [List.length_map]; exact small) ?_ hw fun H' s' e => hd H' s' (by rw [em] at e; exact e)
  intro x d Hc Q hx hm s1 k
  obtain ⟨y, _, rfl⟩ := List.mem_map.mp hm
  cases hx
  exact hs y Hc Q s1 k
def spProgW (K : PySem.W.Frag) : Sp := fun vs H Q _ => ∃ v d, vs = [v, .non] ∧ Dx K H v d ∧ wt d < 16000 ∧ d.depth ≤ 1000 ∧ ∀ H', Same H H' → Q (.bl (progD d)) H'
theorem progD_four (w : Str) (ns ps : List PyData) (b : PyData) : progD (.tuple [.str w, .tuple ns, .tuple ps, b]) = (decide (w = "program") && (varsD (.tuple ns) && (partsD (.tuple ps) && progL (strsD ns) [] (partsL ps b)))) := rfl
theorem varsD_is {d : PyData} (h : varsD d = true) : ∃ ns, d = .tuple ns := by
  cases d with
  | tuple ns => exact ⟨ns, rfl⟩
  | _ => cases h
theorem partsD_is {d : PyData} (h : partsD d = true) : ∃ ns, d = .tuple ns := by
  cases d with
  | tuple ns => exact ⟨ns, rfl⟩
  | _ => cases h
theorem progL_cons (vs ahead : List Str) (n : Str) (e : PyData) (r : List PyData) : progL vs ahead (.tuple [.str n, e] :: r) = (exD e && ((ownNames e).all (fun x => decide (x ∈ vs)) && ((calls e).all (fun x => decide (x ∈ ahead)) && progL vs (ahead ++ [n]) r))) := rfl
theorem rowB_four {d : PyData} (h : rowB 4 d = true) : ∃ a b c e, d = .tuple [a, b, c, e] := by
  cases d with
  | tuple ds =>
    obtain ⟨a, b, c, e, rfl⟩ := len4 (show ds.length = 4 by have : (ds.length : Int) = 4 := of_decide_eq_true h; omega)
    exact ⟨a, b, c, e, rfl⟩
  | _ => cases h
theorem rowB_not {d : PyData} (h : rowB 4 d = false) : progD d = false := by
  cases d with
  | tuple ds =>
    unfold progD
    split
    · rename_i e
      cases e
      cases h
    · rfl
  | _ => rfl
theorem progD_word {a b c e : PyData} (h : Exq.oneOf ["program"] a = false) : progD (.tuple [a, b, c, e]) = false := by
  unfold progD
  split
  · rename_i w ns ps body q
    cases q
    have : decide (w = "program") = false := by
      have h : decide (w ∈ [("program" : Str)]) = false := h
      rw [← h, decide_eq_decide]
      simp
    rw [this, Bool.false_and]
  · rfl
theorem progD_vars {a b c e : PyData} (h : varsD b = false) : progD (.tuple [a, b, c, e]) = false := by
  unfold progD
  split
  · rename_i w ns ps body q
    cases q
    rw [h, Bool.false_and, Bool.and_false]
  · rfl
theorem progD_parts {a b c e : PyData} (h : partsD c = false) : progD (.tuple [a, b, c, e]) = false := by
  unfold progD
  split
  · rename_i w ns ps body q
    cases q
    rw [h, Bool.false_and, Bool.and_false, Bool.and_false]
  · rfl
theorem word_one {a : PyData} (h : Exq.oneOf ["program"] a = true) : a = .str "program" := by
  cases a with
  | str x =>
    have h : decide (x ∈ [("program" : Str)]) = true := h
    rw [List.mem_singleton.mp (of_decide_eq_true h)]
  | _ => cases h
theorem partsL_at {ps : List PyData} {body : PyData} (h : ps.all pairD = true) {i : Nat} {x : PyData} (hx : (partsL ps body)[i]? = some x) : ∃ n e, x = .tuple [.str n, e] := by
  unfold partsL at hx
  rcases List.mem_append.mp (List.mem_of_getElem? hx) with m | m
  · obtain ⟨s, e, rfl, _⟩ := pairD_of (List.all_eq_true.mp h x m)
    exact ⟨s, e, rfl⟩
  · exact ⟨"body", body, List.mem_singleton.mp m⟩
theorem names_few {ws : List Str} {e : PyData} (hex : exD e = true) (hw : wt e < 16000) {ys : List Str} (nd : ys.Nodup) (m : ∀ j, j ∈ ys ↔ j ∈ namesW ws e) : ys.length ≤ 4000 := by
  have h1 : ys.length ≤ (namesW ws e).length := nodup_len.len_sub nd fun j hj => (m j).mp hj
  have h2 : (namesW ws e).length ≤ (nodesL [] e).length := List.length_filterMap_le ..
  rw [nodesL_len hex] at h2
  have h3 := size4' hex
  omega
section
variable {P : Program} {w : World} {K : PySem.W.Frag} {mg : Str → Option Value} {base : Heap}
theorem scIsProgramWith : FnScope ["thing", "hole", "ahead", "name", "expression"] ["thing", "hole"] (defScope sIsProgramWith) := ⟨rfl, rfl, rfl, by decide +kernel, rfl, by decide +kernel, by decide +kernel⟩
theorem hIsProgramWith (D : DS K mg) (T : TF mg) (B : TW K mg) (W : TT K w mg) : Has P w K mg base CX0 "is_program_with" sIsProgramWith ["thing", "hole"] 6 (spProgW K) := by
  have hIsTree : Has P w K mg base CX0 _ _ _ 5 _ := hIsTree D T B W
  have hIsRow : Has P w K mg base CX0 _ _ _ 1 _ := hIsRow D T
  have hIsWord : Has P w K mg base CX0 _ _ _ 1 _ := hIsWord D T
  have hAreVariables : Has P w K mg base CX0 _ _ _ 2 _ := hAreVariables D T B
  have hAreParts : Has P w K mg base CX0 _ _ _ 2 _ := hAreParts D T B
  have hPartsOf : Has P w K mg base CX0 _ _ _ 1 _ := hPartsOf D T
  have hNamesOnly : Has P w K mg base CX0 _ _ _ 2 _ := hNamesOnly D T W
  refine Has.mk0 D.aIsProgramWith scIsProgramWith (fun _ _ _ _ _ _ us hl => match us, hl with | [_, _], _ => rfl) (fun vs H Q E h => ?_) (fun cdv A outer s H vs Q E hr h => ?_)
  · obtain ⟨v, d, rfl, _⟩ := h
    rfl
  · obtain ⟨v, d, rfl, hd, hw, hdep, k⟩ := h
    refine ⟨_, (pss_cons (ps_if (PW.pt (pw_or (pt_not (pt_val (pe_fn hIsRow (hr.mono (by decide)) (by rfl) (pa_cons (pv 0) (pa_cons pe_int pa_nil))))) (pw_or1 (pt_not (pt_val (pe_fn hIsWord (hr.mono (by decide)) (by rfl) (pa_cons (pe_ix ix_tup (pv 0) pe_int (fun _ _ => rfl)) (pa_cons (pe_tup (pa_cons pe_str pa_nil)) pa_nil))))))))
        (pss_one (ps_ret pe_bl))
        pss_nil)
      (pss_cons (ps_if (PW.pt (pw_or (pt_not (pt_val (pe_fn hAreVariables (hr.mono (by decide)) (by rfl) (pa_cons (pe_ix ix_tup (pv 0) pe_int (fun _ _ => rfl)) pa_nil)))) (pw_or1 (pt_not (pt_val (pe_fn hAreParts (hr.mono (by decide)) (by rfl) (pa_cons (pe_ix ix_tup (pv 0) pe_int (fun _ _ => rfl)) pa_nil)))))))
        (pss_one (ps_ret pe_bl))
        pss_nil)
      (pss_cons (ps_set (i := 2) scIsProgramWith.nd rfl (Or.inl rfl) (pe_lst pa_nil))
      (pss_cons (ps_for PassesOwn.never rfl (pi_tup (pe_fn hPartsOf (hr.mono (by decide)) (by rfl) (pa_cons (pv 0) pa_nil))) (pg_tup rfl (pgs_cons (pg_name (i := 3) scIsProgramWith.nd rfl (Or.inl rfl)) (pgs_cons (pg_name (i := 4) scIsProgramWith.nd rfl (Or.inl rfl)) pgs_nil)))
        (pss_cons (ps_if (PW.pt (pw_or (pt_not (pt_val (pe_fn hIsTree (hr.mono (by decide)) (by rfl) (pa_cons (pv 4) (pa_cons (pv 1) pa_nil))))) (pw_or1 (pt_not (pt_val (pe_fn hNamesOnly (hr.mono (by decide)) (by rfl) (pa_cons (pv 4) (pa_cons (pe_ix ix_tup (pv 0) pe_int (fun _ _ => rfl)) (pa_cons (pv 2) pa_nil)))))))))
          (pss_one (ps_ret pe_bl))
          pss_nil)
        (pss_one (ps_expr (pe_bm PySem.F.plainAttrs_list PySem.F.slot_list_append PySem.F.type_list_append mt_append (pv 2) (pa_cons (pv 3) pa_nil))))))
      (pss_one (ps_ret pe_bl)))))), ?_⟩
    refine ⟨_, rfl, v, d, 4, rfl, hd, _, rfl, ?_⟩
    cases c1 : rowB 4 d with
    | false =>
      refine iteT (iteT ?_)
      have := k H rsame
      rw [rowB_not c1] at this
      exact this
    | true =>
    refine iteF ?_
    obtain ⟨d0, dv, dp, db, rfl⟩ := rowB_four c1
    obtain ⟨a, xs, rfl, t⟩ := hd.tupD
    obtain ⟨v0, e0, h0⟩ := t.get 0 rfl
    refine ⟨_, rfl, a, xs, _, v0, rfl, rfl, t.at_, e0, by show 1 ≤ sizeLine; decide, fun p1 hp1 => ?_⟩
    have s1 : Same H (upd H p1 (.tup [V.str "program"])) := snew hp1
    have t1 := t.same s1
    have w1 : SqT K (upd H p1 (.tup [V.str "program"])) p1 (([("program" : Str)] : List Str).map V.str) := SqT.of upd_same
    have h0' := dxSame s1 _ _ h0
    refine ⟨v0, d0, p1, ["program"], rfl, h0', w1, _, rfl, ?_⟩
    generalize upd H p1 (.tup [V.str "program"]) = H1 at *
    cases c2 : Exq.oneOf ["program"] d0 with
    | false =>
      refine iteT ?_
      have := k H1 s1
      rw [progD_word c2] at this
      exact this
    | true =>
    refine iteF ?_
    have wd : wt d0 + wt dv + wt dp + wt db + 1 < 16000 := by
      simp only [wt, wtA] at hw
      omega
    have dd : dv.depth ≤ 1000 ∧ dp.depth < 1000 ∧ db.depth ≤ 1000 := by
      have e1 : (PyData.tuple [d0, dv, dp, db]).depth = PyData.depthAll [d0, dv, dp, db] + 1 := rfl
      have m1 := Exq.depth_mem (xs := [d0, dv, dp, db]) (x := dv) (by simp)
      have m2 := Exq.depth_mem (xs := [d0, dv, dp, db]) (x := dp) (by simp)
      have m3 := Exq.depth_mem (xs := [d0, dv, dp, db]) (x := db) (by simp)
      omega
    obtain ⟨v1, e1, h1⟩ := t1.get 1 rfl
    refine ⟨_, rfl, a, xs, _, v1, rfl, rfl, t1.at_, e1, v1, dv, rfl, h1, by omega, fun H2 s2 => ⟨_, rfl, ?_⟩⟩
    have s02 := s1.trans s2
    have t2 := t1.same s2
    cases c3 : varsD dv with
    | false =>
      refine iteT (iteT ?_)
      have := k H2 s02
      rw [progD_vars c3] at this
      exact this
    | true =>
    refine iteF ?_
    obtain ⟨v2, e2, h2⟩ := t2.get 2 rfl
    refine ⟨_, rfl, a, xs, _, v2, rfl, rfl, t2.at_, e2, v2, dp, rfl, h2, by omega, fun H3 s3 => ⟨_, rfl, ?_⟩⟩
    have s03 := s02.trans s3
    have t3 := t2.same s3
    cases c4 : partsD dp with
    | false =>
      refine iteT ?_
      have := k H3 s03
      rw [progD_parts c4] at this
      exact this
    | true =>
    refine iteF ?_
    obtain ⟨ns, rfl⟩ := varsD_is c3
    obtain ⟨ps, rfl⟩ := partsD_is c4
    cases word_one c2
    have spec : ∀ H', Same H H' → Q (.bl (progL (strsD ns) [] (partsL ps db))) H' := fun H' s' => by
      have := k H' s'
      rw [progD_four, decide_eq_true rfl, c3, c4, Bool.true_and, Bool.true_and, Bool.true_and] at this
      exact this
    rw [varsD_tup] at c3
    rw [partsD_tup] at c4
    simp only [Bool.and_eq_true, decide_eq_true_eq] at c3 c4
    have em := nms_map c3.2.1
    have allP : ps.all pairD = true := c4.2.1
    refine ⟨by show 0 ≤ sizeLine; exact Nat.zero_le _, fun L hL => ?_⟩
    have s4 : Same H3 (upd H3 L (.lst [])) := snew hL
    have hLn : H L = none := s03.free hL
    have L4 : (upd H3 L (.lst [])) L = some (.lst []) := upd_same
    have lv4 : Live [L] (upd H3 L (.lst [])) := fun c hc => by
      rw [List.mem_singleton.mp hc, upd_same]
      exact fun z => nomatch z
    have f34 : Same H3 (hidS [L] (upd H3 L (.lst []))) := same_hid s4 fun c hc => by rw [List.mem_singleton.mp hc]; exact hL
    have t4 : TupD K (hidS [L] (upd H3 L (.lst []))) a xs [.str "program", .tuple ns, .tuple ps, db] := t3.same f34
    have s04 := s03.trans s4
    generalize upd H3 L (.lst []) = H4 at *
    refine ⟨_, rfl, [L], _, _, _, ps, db, rfl, lv4, t4.dx, by omega, fun q zs H5 s5 t5 => ?_⟩
    have s05 := s04.trans s5
    have L5 := s5 _ _ L4
    have tA := (Fr.of s5).tupD t4
    have hz : zs.length = (partsL ps db).length := t5.len
    obtain ⟨vn, en, hn⟩ := tA.get 1 rfl
    obtain ⟨an, xn, rfl, tn⟩ := hn.tupD
    have exn : xn = (strsD ns).map V.str := dx_strs (by rw [← em]; exact tn.all)
    have fail : ∀ H' (b : Bool), Same H H' → progL (strsD ns) [] (partsL ps db) = false → Q (.bl false) H' := fun H' b s' e => by
      have := spec H' s'
      rw [e] at this
      exact this
    refine ⟨q, rfl, ⟨_, Dx.sameT hid_same t5.at_⟩, for_it (walk_tup (K := K) (a := q) (xs := zs)) (fun i σ Hc => ∃ (ahead : List Str) (v3 v4 : Option V), σ = [some (.ref a), some .non, some (.ref L), v3, v4] ∧ Hc L = some (.lst (ahead.map V.str)) ∧ ahead.length ≤ i ∧ Fr [L] H5 Hc ∧ Same H Hc ∧
      progL (strsD ns) [] (partsL ps db) = progL (strsD ns) ahead ((partsL ps db).drop i)) ⟨[], none, none, rfl, L5, Nat.le_refl _, Fr.refl, s05, rfl⟩ (fun _ _ _ _ ⟨_, _, _, _, _, _, f, _⟩ => Dx.sameT hid_same (f.tupD t5).at_) ?_ ?_⟩
    · rintro i x σ Hc Hc' hi ⟨ahead, v3, v4, rfl, Lc, al, fc, sc, sp⟩ ⟨rfl, hx⟩
      obtain ⟨dx, hdx, hxd⟩ := DxAll.atV t5.all hx
      obtain ⟨nm, e, rfl⟩ := partsL_at allP hdx
      obtain ⟨b, ys, rfl, tb⟩ := (fc.dx hxd).tupD
      obtain ⟨vm, ve, rfl⟩ := len2 tb.len
      obtain ⟨hvm, hve⟩ : Dx K (hidS [L] Hc') vm (.str nm) ∧ Dx K (hidS [L] Hc') ve e := by
        cases tb.all with
        | cons a r => cases r with
          | cons b _ => exact ⟨a, b⟩
      cases hvm
      have me := List.mem_of_getElem? hdx
      have we : wt e < 16000 ∧ e.depth ≤ 1000 := by
        unfold partsL at me
        rcases List.mem_append.mp me with m | m
        · have h1 := wtA_mem m
          have h2 := Exq.depth_mem m
          have h3 := dd.2.1
          rw [depth_tup] at h2 h3
          have h4 := Exq.depth_mem (xs := [PyData.str nm, e]) (x := e) (by simp)
          simp only [wt, wtA] at h1 wd
          omega
        · cases List.mem_singleton.mp m
          exact ⟨by omega, dd.2.2⟩
      have drop1 : (partsL ps db).drop i = .tuple [.str nm, e] :: (partsL ps db).drop (i + 1) := List.drop_eq_getElem?_toList_append .. ▸ (by rw [hdx]; rfl)
      rw [drop1, progL_cons] at sp
      refine ⟨b, _, rfl, Dx.sameT hid_same tb.at_, rfl, _, _, rfl, _, _, rfl, rfl, ?_⟩
      -- is_tree
      refine ⟨_, rfl, _, rfl, ve, e, rfl, hve.unhid, by omega, fun H6 s6 => ⟨_, rfl, ?_⟩⟩
      have sc6 := sc.trans s6
      have f6 := fc.trans (Fr.of s6)
      have hve6 := (Fr.of (S := [L]) s6).dx hve
      have L6 := s6 _ _ Lc
      cases c5 : exD e with
      | false =>
        refine iteT ?_
        exact fail H6 true sc6 (by rw [sp, c5, Bool.false_and])
      | true =>
      refine iteF ?_
      rw [c5, Bool.true_and] at sp
      -- its names
      refine ⟨_, rfl, _, rfl, a, xs, _, _, rfl, rfl, Dx.sameT hid_same (f6.tupD tA).at_, en, _, rfl, ve, e, an, L, strsD ns, ahead, rfl, hve6.unhid, c5, by omega, by rw [← exn]; exact Dx.sameT hid_same (f6.tupD tn).at_, L6, fun H7 s7 => ⟨_, rfl, ?_⟩⟩
      have sc7 := sc6.trans s7
      have f7 := f6.trans (Fr.of s7)
      have L7 := s7 _ _ L6
      have eo : ((ownNames e).all (fun x => decide (x ∈ strsD ns)) && ((calls e).all (fun x => decide (x ∈ ahead)) && progL (strsD ns) (ahead ++ [nm]) ((partsL ps db).drop (i + 1)))) = (onlyB (strsD ns) ahead e && progL (strsD ns) (ahead ++ [nm]) ((partsL ps db).drop (i + 1))) := by
        rw [← Bool.and_assoc]
        rfl
      rw [eo] at sp
      cases c6 : onlyB (strsD ns) ahead e with
      | false =>
        refine iteT ?_
        exact fail H7 true sc7 (by rw [sp, c6, Bool.false_and])
      | true =>
      refine iteF ?_
      rw [c6, Bool.true_and] at sp
      refine ⟨_, rfl, .inl ⟨rfl, _, SqL.of L7⟩, _, rfl, L, _, _, rfl, rfl, L7, ?_, ahead ++ [nm], _, _, rfl, ?_, ?_, f7.trans (Fr.set (List.mem_singleton.mpr rfl)), upd_same_new sc7 hLn, sp⟩
      · rw [List.length_map, sizeLine_eq]
        have := c4.1
        rw [hz] at hi
        unfold partsL at hi
        rw [List.length_append, List.length_singleton] at hi
        omega
      · rw [upd_same, List.map_append]
        rfl
      · rw [List.length_append, List.length_singleton]
        omega
    · rintro σ Hc ⟨ahead, v3, v4, rfl, Lc, al, fc, sc, sp⟩
      rw [hz, List.drop_length] at sp
      have := spec Hc sc
      rw [sp] at this
      exact this
theorem scIsProgram : FnScope ["thing"] ["thing"] (defScope sIsProgram) := ⟨rfl, rfl, rfl, by decide +kernel, rfl, by decide +kernel, by decide +kernel⟩
def spProg (K : PySem.W.Frag) : Sp := fun vs H Q _ => ∃ v d, vs = [v] ∧ Dx K H v d ∧ wt d < 16000 ∧ d.depth ≤ 1000 ∧ ∀ H', Same H H' → Q (.bl (progD d)) H'
theorem hIsProgram (D : DS K mg) (T : TF mg) (B : TW K mg) (W : TT K w mg) : Has P w K mg base CX0 "is_program" sIsProgram ["thing"] 7 (spProg K) := by
  have hIsProgramWith : Has P w K mg base CX0 _ _ _ 6 _ := hIsProgramWith D T B W
  refine Has.mk0 D.aIsProgram scIsProgram (fun _ _ _ _ _ _ us hl => match us, hl with | [_], _ => rfl) (fun vs H Q E h => ?_) (fun cdv A outer s H vs Q E hr h => ?_)
  · obtain ⟨v, d, rfl, _⟩ := h
    rfl
  · obtain ⟨v, d, rfl, hd, hw, hdep, k⟩ := h
    exact ⟨_, (pss_one (ps_ret (pe_fn hIsProgramWith (hr.mono (by decide)) (by rfl) (pa_cons (pv 0) (pa_cons pe_non pa_nil))))), ⟨_, rfl, v, d, rfl, hd, hw, hdep, k⟩⟩
end
end Any
set_option Elab.async false
set_option linter.all false
set_option maxRecDepth 100000
set_option maxHeartbeats 4000000
/-! Data of tuples alone: it stays whatever is done to lists and dicts. -/
namespace Any
open PySem PySem.Spec PyProof.Rows L2 RT
open He (ga ma)
/-! ### data without lists and dicts -/
mutual
def nl : PyData → Bool
  | .list _ => false
  | .dict _ => false
  | .tuple ds => nlA ds
  | .none => true
  | .bool _ => true
  | .int _ => true
  | .str _ => true
def nlA : List PyData → Bool
  | [] => true
  | d :: ds => nl d && nlA ds
end
theorem nlA_all : ∀ ds : List PyData, nlA ds = ds.all nl
  | [] => rfl
  | d :: ds => by
    show (nl d && nlA ds) = _
    rw [nlA_all ds]
    rfl
theorem nl_tup {ds : List PyData} : nl (.tuple ds) = ds.all nl := nlA_all ds
theorem nl_tup' {ds : List PyData} (h : ∀ d ∈ ds, nl d = true) : nl (.tuple ds) = true := nl_tup.trans (List.all_eq_true.mpr h)
theorem nl_mem {ds : List PyData} (h : nl (.tuple ds) = true) {d : PyData} (m : d ∈ ds) : nl d = true := List.all_eq_true.mp (nl_tup.symm.trans h) d m
/-- a list or a dict -/
def Mt : HO → Prop
  | .lst _ => True
  | .dK _ => True
  | _ => False
/-- all that is no list and no dict stays -/
def Tst (H H' : Hp) : Prop := ∀ b o, H b = some o → ¬ Mt o → H' b = some o
theorem Tst.refl {H : Hp} : Tst H H := fun _ _ e _ => e
theorem Tst.trans {H H1 H2 : Hp} (a : Tst H H1) (b : Tst H1 H2) : Tst H H2 := fun c o e n => b c o (a c o e n) n
theorem Tst.of {H H' : Hp} (s : Same H H') : Tst H H' := fun b o e _ => s b o e
theorem Tst.new {H : Hp} {b : Addr} {o : HO} (h : H b = none) : Tst H (upd H b o) := Tst.of (snew h)
theorem Tst.set {H : Hp} {b : Addr} {o o' : HO} (h : H b = some o) (m : Mt o) : Tst H (upd H b o') := fun c q e n => by
  by_cases z : c = b
  · rw [z, h] at e
    cases e
    exact absurd m n
  · rw [upd_ne z]
    exact e
theorem Fr.tst {S : List Addr} {H H' : Hp} (f : Fr S H H') (m : ∀ b ∈ S, ∀ o, H b = some o → Mt o) : Tst H H' := fun b o e n => f.at e fun z => n (m b z o e)
theorem Tst.sqT {K : PySem.W.Frag} {H H' : Hp} (s : Tst H H') {a : Addr} {xs : List V} (h : SqT K H a xs) : SqT K H' a xs := by
  rcases h with (h | ⟨o, h⟩) | h
  · exact .inl (.inl (s _ _ h id))
  · exact .inl (.inr ⟨o, s _ _ h id⟩)
  · exact .inr h
mutual
theorem Tst.dx {K : PySem.W.Frag} {H H' : Hp} (s : Tst H H') : ∀ {d : PyData} {v : V}, nl d = true → Dx K H v d → Dx K H' v d
  | .none, _, _, .non => .non
  | .bool _, _, _, .bl b => .bl b
  | .int _, _, _, .int i => .int i
  | .str _, _, _, .str x => .str x
  | .tuple ds, _, n, .tup e r => .tup (s.sqT e) (Tst.dxA s n r)
theorem Tst.dxA {K : PySem.W.Frag} {H H' : Hp} (s : Tst H H') : ∀ {ds : List PyData} {vs : List V}, nlA ds = true → DxAll K H vs ds → DxAll K H' vs ds
  | [], _, _, .nil => .nil
  | d :: ds, _, n, .cons h r => .cons (Tst.dx s (Bool.and_eq_true_iff.mp n).1 h) (Tst.dxA s (Bool.and_eq_true_iff.mp n).2 r)
end
theorem Tst.tupD {K : PySem.W.Frag} {H H' : Hp} (s : Tst H H') {a : Addr} {xs : List V} {ds : List PyData} (n : nl (.tuple ds) = true) (t : TupD K H a xs ds) : TupD K H' a xs ds := ⟨s.sqT t.at_, s.dxA n t.all⟩
/-- lists and dicts hidden -/
theorem Tst.hid {S : List Addr} {H : Hp} (m : ∀ b ∈ S, ∀ o, H b = some o → Mt o) : Tst H (hidS S H) := fun b o e n => hid_of (fun z => n (m b z o e)) e
theorem each4 {nm : PyData → Bool} {y z u w : PyData} (h : Exq.eachOk nm [y, z, u, w] = true) : nm y = true ∧ Exq.btw 0 7 z = true ∧ ∃ i, z = .int i ∧ Exq.btw i 7 u = true := by
  unfold Exq.eachOk at h
  simp only [Bool.and_eq_true] at h
  obtain ⟨o1, o2, o3⟩ := h
  refine ⟨o1, o2, ?_⟩
  split at o3
  · exact ⟨_, rfl, o3⟩
  · cases o3
theorem each5 {nm : PyData → Bool} {y z u w p : PyData} (h : Exq.eachOk nm [y, z, u, w, p] = true) : nm y = true ∧ Exq.oneOf ["up", "down"] p = true ∧ Exq.btw 0 7 z = true ∧ ∃ i, z = .int i ∧ Exq.btw i 7 u = true := by
  unfold Exq.eachOk at h
  simp only [Bool.and_eq_true] at h
  obtain ⟨o1, o4, o2, o3⟩ := h
  refine ⟨o1, o4, o2, ?_⟩
  split at o3
  · exact ⟨_, rfl, o3⟩
  · cases o3
/-- an item of an expression is an expression or flat -/
theorem ex_item {x : Str} {r : List PyData} (ok : Exq.nodeOk nmD x r = true) : ∀ (i : Nat) (d : PyData), (PyData.str x :: r)[i]? = some d → i ∉ kidsAt x → (∃ s, d = .str s) ∨ ∃ n, d = .int n := by
  have hS : ∀ {d : PyData}, nmD d = true → (∃ s, d = .str s) ∨ ∃ n, d = .int n := fun h => by
    obtain ⟨s, rfl, _⟩ := nmD_str h
    exact .inl ⟨s, rfl⟩
  have hB : ∀ {lo hi : Int} {d : PyData}, Exq.btw lo hi d = true → (∃ s, d = .str s) ∨ ∃ n, d = .int n := fun {lo hi d} h => by
    cases d with
    | int n => exact .inr ⟨n, rfl⟩
    | _ => cases h
  have hO : ∀ {ws : List Str} {d : PyData}, Exq.oneOf ws d = true → (∃ s, d = .str s) ∨ ∃ n, d = .int n := fun {ws d} h => by
    cases d with
    | str n => exact .inl ⟨n, rfl⟩
    | _ => cases h
  intro i d hd hi
  cases i with
  | zero =>
    cases Option.some.inj hd
    exact .inl ⟨x, rfl⟩
  | succ i =>
    have hd : r[i]? = some d := hd
    by_cases m : x ∈ Exq.opsN
    · rw [at_op m] at hi
      rw [op_node m] at ok
      simp only [Bool.or_eq_true, Bool.and_eq_true, decide_eq_true_eq] at ok
      rcases ok with hl | ⟨hl, ok⟩
      · obtain ⟨y, z, rfl⟩ := len2 hl
        match i, hd with
        | 0, _ => exact absurd (by simp) hi
        | 1, _ => exact absurd (by simp) hi
      · obtain ⟨y, z, u, rfl⟩ := len3 hl
        match i, hd with
        | 0, _ => exact absurd (by simp) hi
        | 1, _ => exact absurd (by simp) hi
        | 2, hd => cases Option.some.inj hd; exact hO ok
    by_cases e1 : x = "each"
    · subst e1
      rw [show kidsAt "each" = [4] by decide +kernel] at hi
      rw [each_node] at ok
      have hl : r.length = 4 ∨ r.length = 5 := by
        by_cases z : r.length = 4 ∨ r.length = 5
        · exact z
        · rw [each_len z] at ok
          cases ok
      rcases hl with hl | hl
      · obtain ⟨y, z, u, w, rfl⟩ := len4 hl
        obtain ⟨o1, o2, _, _, o3⟩ := each4 ok
        match i, hd with
        | 0, hd => cases Option.some.inj hd; exact hS o1
        | 1, hd => cases Option.some.inj hd; exact hB o2
        | 2, hd => cases Option.some.inj hd; exact hB o3
        | 3, _ => exact absurd (by simp) hi
      · obtain ⟨y, z, u, w, p, rfl⟩ := len5 hl
        obtain ⟨o1, o4, o2, _, _, o3⟩ := each5 ok
        match i, hd with
        | 0, hd => cases Option.some.inj hd; exact hS o1
        | 1, hd => cases Option.some.inj hd; exact hB o2
        | 2, hd => cases Option.some.inj hd; exact hB o3
        | 3, _ => exact absurd (by simp) hi
        | 4, hd => cases Option.some.inj hd; exact hO o4
    by_cases e2 : x = "name"
    · subst e2
      rw [name_node] at ok
      simp only [Bool.or_eq_true, Bool.and_eq_true, decide_eq_true_eq] at ok
      obtain ⟨hl, o1, o2⟩ := ok
      rcases hl with hl | hl
      · obtain ⟨y, rfl⟩ := len1 hl
        match i, hd with
        | 0, hd => cases Option.some.inj hd; exact hS o1
      · obtain ⟨y, z, rfl⟩ := len2 hl
        match i, hd with
        | 0, hd => cases Option.some.inj hd; exact hS o1
        | 1, hd =>
          cases Option.some.inj hd
          rcases o2 with o2 | o2
          · cases o2
          · exact hB o2
    · by_cases e3 : x ∈ (["set", "call"] : List Str)
      · obtain ⟨s, r', rfl, _⟩ := named_node ok (by simp only [List.mem_cons, List.not_mem_nil, or_false] at e3 ⊢; rcases e3 with rfl | rfl <;> simp)
        cases i with
        | zero => cases Option.some.inj hd; exact .inl ⟨s, rfl⟩
        | succ i =>
          rw [other_node m e1 e2] at ok
          simp only [Bool.and_eq_true, decide_eq_true_eq] at ok
          obtain ⟨_, l, _⟩ := ok
          simp only [List.mem_cons, List.not_mem_nil, or_false] at e3
          rcases e3 with rfl | rfl
          · rw [show kidsAt "set" = [2] by decide +kernel] at hi
            rw [show lenAt "set" = 3 by decide +kernel, List.length_cons] at l
            obtain ⟨q, rfl⟩ := len1 (show r'.length = 1 by omega)
            match i, hd with
            | 0, _ => exact absurd (by simp) hi
          · rw [show lenAt "call" = 2 by decide +kernel, List.length_cons] at l
            obtain rfl := List.length_eq_zero_iff.mp (show r'.length = 0 by omega)
            cases hd
      · rw [other_node m e1 e2] at ok
        simp only [Bool.and_eq_true, decide_eq_true_eq] at ok
        obtain ⟨k, l, o⟩ := ok
        unfold lenKeys at k
        simp only [List.mem_cons, List.not_mem_nil, or_false] at k
        have il : i < r.length := (List.getElem?_eq_some_iff.mp hd).1
        rcases k with rfl | rfl | rfl | rfl | rfl | rfl | rfl | rfl
        · rw [show lenAt "number" = 2 by decide +kernel] at l
          obtain ⟨q, rfl⟩ := len1 (show r.length = 1 by omega)
          rw [if_pos rfl] at o
          match i, hd with
          | 0, hd => cases Option.some.inj hd; exact hB o
        · exact absurd (by simp) e3
        · rw [show kidsAt "show" = [1] by decide +kernel] at hi
          rw [show lenAt "show" = 2 by decide +kernel] at l
          exact absurd (by simp only [List.mem_singleton]; omega) hi
        · rw [show lenAt "ask" = 1 by decide +kernel] at l
          omega
        · rw [show kidsAt "if" = [1, 2, 3] by decide +kernel] at hi
          rw [show lenAt "if" = 4 by decide +kernel] at l
          exact absurd (by simp only [List.mem_cons, List.not_mem_nil, or_false]; omega) hi
        · rw [show kidsAt "then" = [1, 2] by decide +kernel] at hi
          rw [show lenAt "then" = 3 by decide +kernel] at l
          exact absurd (by simp only [List.mem_cons, List.not_mem_nil, or_false]; omega) hi
        · rw [show kidsAt "while" = [1, 2] by decide +kernel] at hi
          rw [show lenAt "while" = 3 by decide +kernel] at l
          exact absurd (by simp only [List.mem_cons, List.not_mem_nil, or_false]; omega) hi
        · exact absurd (by simp) e3
theorem nl_ex' : ∀ (n : Nat) (d : PyData), exD d = true → d.depth < n → nl d = true
  | 0, _, _, h => absurd h (Nat.not_lt_zero _)
  | n + 1, d, ex, hn => by
    obtain ⟨x, r, rfl, ok, kid⟩ := ex_node ex
    refine nl_tup' fun e he => ?_
    obtain ⟨i, hi⟩ := List.getElem?_of_mem he
    by_cases m : i ∈ kidsAt x
    · have := (kid i m).2
      rw [List.getD_eq_getElem?_getD, hi] at this
      have dd : e.depth ≤ PyData.depthAll (PyData.str x :: r) := Exq.depth_mem he
      rw [depth_tup] at hn
      exact nl_ex' n e this (by omega)
    · rcases ex_item ok i e hi m with ⟨s, rfl⟩ | ⟨s, rfl⟩ <;> rfl
theorem nl_ex {d : PyData} (h : exD d = true) : nl d = true := nl_ex' _ d h (Nat.lt_succ_self _)
end Any
set_option Elab.async false
set_option linter.all false
set_option maxRecDepth 100000
set_option maxHeartbeats 4000000
/-! name = {k: v for ..}: the store is the comprehension's own last step. -/
namespace Any
open PySem PySem.Spec PyProof.Rows L2
/-- a name of the def's own, on one row with the comprehension, that is none of its own names: stored from within -/
theorem fromWithin {kx vx : Expr} {gs : List Comprehension} {scope : Scope} {pos py : Pos} {y : Str} {l : Nat} {env : Env} (inDef : env.scope.kind = .function) (own : env.scope.names.lookup y = some .local) (oneRow : (py.line == pos.line) = true)
    (apart : (scope.names.any fun (n, k) => n == y && (k == .local || k == .cell)) = false) : swapsWith (.DictComp kx vx gs scope pos) (some (.Name y py)) l env = pure true := by
  have b : env.blockKind = .function := by
    unfold Env.blockKind
    rw [inDef]
    rfl
  have kd : env.kindOf y = some .local := own
  unfold swapsWith
  simp only [b, kd, apart, oneRow, Expr.pos]
  rfl
/-- {kx: vx for tg in src if ..} read clause by clause -/
structure DcOk (X : Cx) (kx vx tg src : Expr) (ifs : List Expr) (scope : Scope) (wi : TI) (g : TG) (tt : L2.TT) (tk tv : TE) : Prop where
  i : PI X tg src wi
  g : ∀ (s : Shared) (H : Hp) (C : Addr) (cl : List (Str × Addr)) (fp : List Addr), PG (X.blk s H scope (compEnvC scope cl C X.env) fp) tg g
  t : ∀ (s : Shared) (H : Hp) (C : Addr) (cl : List (Str × Addr)) (fp : List Addr), PTs (X.blk s H scope (compEnvC scope cl C X.env) fp) ifs tt
  k : ∀ (s : Shared) (H : Hp) (C : Addr) (cl : List (Str × Addr)) (fp : List Addr), PE (X.blk s H scope (compEnvC scope cl C X.env) fp) kx tk
  v : ∀ (s : Shared) (H : Hp) (C : Addr) (cl : List (Str × Addr)) (fp : List Addr), PE (X.blk s H scope (compEnvC scope cl C X.env) fp) vx tv
  f : ∀ x, foldedSetIterable src X.env x = pure x
theorem ps_setDc {X : Cx} {i : Nat} {y : Str} {py : Pos} {kx vx tg src : Expr} {ifs : List Expr} {scope : Scope} {own : List (Str × Nat)} {pos spos : Pos} {wi : TI} {g : TG} {tt : L2.TT} {tk tv : TE} (calm : X.calm = true) (nd : X.N.Nodup) (at_ : X.N[i]? = some y) (loc : X.env.scope.names.lookup y = some .local)
    (sw : swapsWith (.DictComp kx vx [⟨tg, src, ifs, 0⟩] scope pos) (some (.Name y py)) spos.line X.env = pure true) (blk : BlkOk X.N X.env.scope scope own) (B : DcOk X kx vx tg src ifs scope wi g tt tk tv) :
    PS X (.Assign [.Name y py] (.DictComp kx vx [⟨tg, src, ifs, 0⟩] scope pos) spos) (tAsg (tDc wi g tt tk tv (own.map (·.2))) (gName i)) := by
  constructor
  intro pins s σ H D I told
  have told : tDc wi g tt tk tv (own.map (·.2)) σ H (fun x H1 => gName i x σ H1 D.nx) := told
  have whole : wpAny (model X.prog X.w) X.A (comprehension (.DictComp kx vx [⟨tg, src, ifs, 0⟩] scope pos) scope X.env (firstIterPos [⟨tg, src, ifs, 0⟩] pos) newDict false (eval src X.env) (some (assign (.Name y py) X.env))) (fun _ s' => SP X pins D .next s') X.xe s := by
    refine dc_core (Qf := fun _ s' => SP X pins D .next s') calm nd I B.i blk B.g B.t B.k B.v B.f told fun L C s' m H' J q ns fr => ?_
    show wpAny _ _ (assign (.Name y py) X.env (.ref L)) _ _ _
    refine wpAny_assign_Name (store_ok2 (v := V.ref L) J nd at_ (.inl loc) rfl (fun s2 J2 got => ?_) (.inr loc))
    obtain ⟨a, sb, ha⟩ := got
    have apart : C ≠ a := ha.elim (fun z => by rw [z]; exact fr.2.1) fun z e => fr.2.2.2.2.1 y a z e.symm
    refine ⟨m, ns.sameBut sb apart, fun h3 sb3 => ⟨_, H', J2.turned (t' := s2.toks) (fun b o hb e => (sb3.2 b hb).trans e) fr.1 fr.2.1 fr.2.2.2.1 fr.2.2.2.2.1 fr.2.2.2.2.2, q⟩⟩
  rw [exec_Assign_Name_used _ _ _ _ sw]
  exact wpAny_bind (wpAny_standAt (wpAny_bind (wpAny_bind (thn whole fun _ s' q => wpAny_pure (wpAny_pure q)))))
end Any
set_option Elab.async false
set_option linter.all false
set_option maxRecDepth 100000
set_option maxHeartbeats 4000000
/-! places_of: the places of a kind. -/
namespace Any
open PySem PySem.Spec PyProof.Rows L2 RT
open He (ga ma)
/-! ### the mathematics -/
def openE (kd : Str) : PyData → Bool
  | .tuple (.str h :: r) => openB kd h r
  | _ => false
/-- the paths of the places of a kind in an expression -/
def plP (kd : Str) (e : PyData) : List (List Nat) := ((nodesL [] e).filter fun q => openE kd q.2).map (·.1)
def plPart (kd : Str) : PyData → List PyData
  | .tuple [.str n, e] => (plP kd e).map fun p => PyData.tuple [.str n, pathD p]
  | _ => []
def plL (kd : Str) (ds : List PyData) : List PyData := ds.flatMap (plPart kd)
theorem progL_each {vs : List Str} : ∀ {ahead : List Str} {ds : List PyData}, progL vs ahead ds = true → ∀ x ∈ ds, ∃ n e, x = .tuple [.str n, e] ∧ exD e = true
  | _, [], _, _, h => nomatch h
  | ahead, d :: r, h, x, m => by
    unfold progL at h
    split at h
    · contradiction
    · rename_i e
      cases e
      simp only [Bool.and_eq_true] at h
      rcases List.mem_cons.mp m with rfl | m
      · exact ⟨_, _, rfl, h.1⟩
      · exact progL_each h.2.2.2 x m
    · cases h
theorem hid_nil {H : Hp} : hidS [] H = H := funext fun b => hid_out (by simp)
theorem Live.nil {H : Hp} : Live [] H := fun c hc => nomatch hc
theorem nl_path (p : List Nat) : nl (pathD p) = true := nl_tup' fun d hd => by
  obtain ⟨i, _, rfl⟩ := List.mem_map.mp hd
  rfl
theorem plPart_len {kd n : Str} {e : PyData} (ex : exD e = true) : (plPart kd (.tuple [.str n, e])).length ≤ wt e := by
  show ((plP kd e).map _).length ≤ _
  rw [List.length_map, plP, List.length_map]
  have h1 := List.length_filter_le (fun q => openE kd q.2) (nodesL [] e)
  rw [nodesL_len ex] at h1
  exact Nat.le_trans h1 (size_wt e)
theorem plL_len {kd : Str} : ∀ {ds : List PyData}, (∀ x ∈ ds, ∃ n e, x = .tuple [.str n, e] ∧ exD e = true) → (plL kd ds).length ≤ wtA ds
  | [], _ => Nat.le_refl _
  | d :: ds, h => by
    obtain ⟨n, e, rfl, ex⟩ := h d (List.mem_cons_self ..)
    have h1 := plPart_len (kd := kd) (n := n) ex
    have h2 := plL_len (kd := kd) fun x m => h x (List.mem_cons_of_mem _ m)
    unfold plL at h2 ⊢
    rw [List.flatMap_cons, List.length_append]
    simp only [wtA, wt]
    omega
theorem nl_plPart {kd : Str} {d : PyData} : nlA (plPart kd d) = true := by
  rw [nlA_all, List.all_eq_true]
  intro x hx
  unfold plPart at hx
  split at hx
  · obtain ⟨p, _, rfl⟩ := List.mem_map.mp hx
    exact nl_tup' fun z hz => by
      simp only [List.mem_cons, List.not_mem_nil, or_false] at hz
      rcases hz with rfl | rfl
      · rfl
      · exact nl_path p
  · cases hx
theorem nl_plL {kd : Str} {ds : List PyData} : nlA (plL kd ds) = true := by
  rw [nlA_all, List.all_eq_true]
  intro x hx
  obtain ⟨d, _, hx⟩ := List.mem_flatMap.mp hx
  have := nl_plPart (kd := kd) (d := d)
  rw [nlA_all, List.all_eq_true] at this
  exact this x hx
/-- the parts of a program as data -/
def partsOk (ds : List PyData) : Prop := ∀ x ∈ ds, ∃ n e, x = .tuple [.str n, e] ∧ exD e = true ∧ wt e < 16000 ∧ e.depth ≤ 1000
/-- the kinds that are chosen -/
structure TA0 (K : PySem.W.Frag) (mg : Str → Option Value) : Prop where
  ask : mg "ASKING" = some (.ref (ga K "ASKING"))
  askT : ∀ H, SqT K H (ga K "ASKING") (([("order" : Str), "walk", "fill"] : List Str).map V.str)
abbrev kinds3 : List Str := ["order", "walk", "fill"]
def byK (g : Str → Addr) : List (Key × V) := [(.inr "order", .ref (g "order")), (.inr "walk", .ref (g "walk")), (.inr "fill", .ref (g "fill"))]
theorem byK_get (g : Str → Addr) {kd : Str} (m : kd ∈ kinds3) : valV (byK g) (.inr kd) = some (.ref (g kd)) := by
  have n1 : ¬ (Sum.inr ("order" : Str) : Key) = (Sum.inr ("walk" : Str) : Key) := by decide +kernel
  have n2 : ¬ (Sum.inr ("order" : Str) : Key) = (Sum.inr ("fill" : Str) : Key) := by decide +kernel
  have n3 : ¬ (Sum.inr ("walk" : Str) : Key) = (Sum.inr ("fill" : Str) : Key) := by decide +kernel
  simp only [kinds3, List.mem_cons, List.not_mem_nil, or_false] at m
  rcases m with rfl | rfl | rfl
  · exact valV_pos rfl
  · exact (valV_neg n1).trans (valV_pos rfl)
  · exact (valV_neg n2).trans ((valV_neg n3).trans (valV_pos rfl))
/-- the lists of the places of each kind -/
def Lists (K : PySem.W.Frag) (g : Str → Addr) (xs : Str → List PyData) (H : Hp) : Prop := ∃ F : Str → List V, ∀ kd ∈ kinds3, H (g kd) = some (.lst (F kd)) ∧ DxAll K H (F kd) (xs kd)
def spByKind (K : PySem.W.Frag) : Sp := fun vs H Q _ => ∃ v w0 ns ps body, vs = [v] ∧ Dx K H v (.tuple [w0, ns, .tuple ps, body]) ∧ nl (.tuple [w0, ns, .tuple ps, body]) = true ∧ partsOk (partsL ps body) ∧ wtA (partsL ps body) ≤ 100000 ∧ ps.length ≤ 1000 ∧
  ∀ p g H', Same H H' → H' p = some (.dK (byK g)) → Lists K g (fun kd => plL kd (partsL ps body)) H' → Q (.ref p) H'
def spPlacesOf (K : PySem.W.Frag) : Sp := fun vs H Q _ => ∃ v kd w0 ns ps body, vs = [v, .str kd] ∧ kd ∈ kinds3 ∧ Dx K H v (.tuple [w0, ns, .tuple ps, body]) ∧ nl (.tuple [w0, ns, .tuple ps, body]) = true ∧ partsOk (partsL ps body) ∧ wtA (partsL ps body) ≤ 100000 ∧ ps.length ≤ 1000 ∧
  ∀ p xs H', Same H H' → TupD K H' p xs (plL kd (partsL ps body)) → Q (.ref p) H'
theorem nlA_nodes {e : PyData} (ex : exD e = true) : nlA (nodesD e) = true := by
  rw [nlA_all, List.all_eq_true]
  intro x hx
  obtain ⟨q, hq, rfl⟩ := List.mem_map.mp hx
  exact nl_tup' fun z hz => by
    simp only [List.mem_cons, List.not_mem_nil, or_false] at hz
    rcases hz with rfl | rfl
    · exact nl_path q.1
    · exact nl_ex (nodesL_ok ex q hq).1
/-- places of one kind, in the first nodes -/
def plT (kd nm : Str) (e : PyData) (j : Nat) : List PyData := (((nodesL [] e).take j).filter fun q => openE kd q.2).map fun q => PyData.tuple [.str nm, pathD q.1]
theorem nl_plT {kd nm : Str} {e : PyData} {j : Nat} : nlA (plT kd nm e j) = true := by
  rw [nlA_all, List.all_eq_true]
  intro x hx
  obtain ⟨q, _, rfl⟩ := List.mem_map.mp hx
  exact nl_tup' fun z hz => by
    simp only [List.mem_cons, List.not_mem_nil, or_false] at hz
    rcases hz with rfl | rfl
    · rfl
    · exact nl_path q.1
theorem plT_len {kd nm : Str} {e : PyData} (ex : exD e = true) {j : Nat} : (plT kd nm e j).length ≤ wt e := by
  unfold plT
  rw [List.length_map]
  have h1 := List.length_filter_le (fun q => openE kd q.2) ((nodesL [] e).take j)
  rw [List.length_take, nodesL_len ex] at h1
  have := size_wt e
  omega
section
variable {P : Program} {w : World} {K : PySem.W.Frag} {mg : Str → Option Value} {base : Heap}
theorem scPlacesByKind : FnScope ["program", "found", "name", "expression", "path", "node", "kind"] ["program"] (defScope sPlacesByKind) := ⟨rfl, rfl, rfl, by decide +kernel, rfl, by decide +kernel, by decide +kernel⟩
theorem hPlacesByKind (D : DS K mg) (T : TF mg) (W : TT K w mg) (A0 : TA0 K mg) : Has P w K mg base CX0 "places_by_kind" sPlacesByKind ["program"] 3 (spByKind K) := by
  have hPartsOf : Has P w K mg base CX0 _ _ _ 1 _ := hPartsOf D T
  have hNodesOf : Has P w K mg base CX0 _ _ _ 2 _ := hNodesOf D T W
  have hOpenKind : Has P w K mg base CX0 _ _ _ 1 _ := hOpenKind D T W
  refine Has.mk0 D.aPlacesByKind scPlacesByKind (fun _ _ _ _ _ _ us hl => match us, hl with | [_], _ => rfl) (fun vs H Q E h => ?_) (fun cdv A outer s H vs Q E hr h => ?_)
  · obtain ⟨v, w0, ns, ps, body, rfl, _⟩ := h
    rfl
  · obtain ⟨v, w0, ns, ps, body, rfl, hd, hnl, ok, hw, pl, k⟩ := h
    refine ⟨_, (pss_cons (ps_setDc (i := 1) (own := [("kind", 6)]) (g := gName 6) rfl scPlacesByKind.nd rfl rfl (fromWithin rfl rfl rfl (by decide +kernel)) (blkOk_by (own := [("kind", 6)]) (N := ["program", "found", "name", "expression", "path", "node", "kind"]) (sc := defScope sPlacesByKind) (by decide +kernel)) ⟨pi_tup (pe_glob (v := .ref (ga K "ASKING")) (by rfl) A0.ask rfl), fun _ _ _ _ _ => pg_name (i := 6) scPlacesByKind.nd rfl (Or.inl rfl), fun _ _ _ _ _ => pts_nil, fun _ _ _ _ _ => (pv 6), fun _ _ _ _ _ => (pe_lst pa_nil), fun _ => rfl⟩)
      (pss_cons (ps_for PassesOwn.never rfl (pi_tup (pe_fn hPartsOf (hr.mono (by decide)) (by rfl) (pa_cons (pv 0) pa_nil))) (pg_tup rfl (pgs_cons (pg_name (i := 2) scPlacesByKind.nd rfl (Or.inl rfl)) (pgs_cons (pg_name (i := 3) scPlacesByKind.nd rfl (Or.inl rfl)) pgs_nil)))
        (pss_one (ps_for PassesOwn.never rfl (pi_list (pe_fn hNodesOf (hr.mono (by decide)) (by rfl) (pa_cons (pv 3) pa_nil))) (pg_tup rfl (pgs_cons (pg_name (i := 4) scPlacesByKind.nd rfl (Or.inl rfl)) (pgs_cons (pg_name (i := 5) scPlacesByKind.nd rfl (Or.inl rfl)) pgs_nil)))
          (pss_cons (ps_set (i := 6) scPlacesByKind.nd rfl (Or.inl rfl) (pe_fn hOpenKind (hr.mono (by decide)) (by rfl) (pa_cons (pv 5) pa_nil)))
          (pss_one (ps_if (pt_cmp (pc_notN (pv 6)))
            (pss_one (ps_expr (pe_bm PySem.F.plainAttrs_list PySem.F.slot_list_append PySem.F.type_list_append mt_append (pe_dget (hu_of hr) (pv 1) (pv 6) (fun _ _ => rfl)) (pa_cons (pe_tup (pa_cons (pv 2) (pa_cons (pv 4) pa_nil))) pa_nil))))
            pss_nil))))))
      (pss_one (ps_ret (pv 1))))), ?_⟩
    refine ⟨_, rfl, ⟨_, A0.askT _⟩, fun F hF => dc_tup (K := K) (a := ga K "ASKING") (xs := kinds3.map V.str) (fun i Hc => Same H Hc ∧ match i with
      | 0 => Hc F = some (.dK [])
      | 1 => ∃ l1, Hc F = some (.dK [(.inr "order", .ref l1)]) ∧ Hc l1 = some (.lst []) ∧ H l1 = none
      | 2 => ∃ l1 l2, Hc F = some (.dK [(.inr "order", .ref l1), (.inr "walk", .ref l2)]) ∧ Hc l1 = some (.lst []) ∧ Hc l2 = some (.lst []) ∧ l1 ≠ l2 ∧ H l1 = none ∧ H l2 = none
      | _ => ∃ l1 l2 l3, Hc F = some (.dK [(.inr "order", .ref l1), (.inr "walk", .ref l2), (.inr "fill", .ref l3)]) ∧ Hc l1 = some (.lst []) ∧ Hc l2 = some (.lst []) ∧ Hc l3 = some (.lst []) ∧ l1 ≠ l2 ∧ l1 ≠ l3 ∧ l2 ≠ l3 ∧ H l1 = none ∧ H l2 = none ∧ H l3 = none)
      ⟨snew hF, upd_same⟩ (fun _ Hc _ _ => A0.askT Hc) ?_ ?_⟩
    · rintro i x Hc hx ⟨s1, q⟩
      have i3 : i < 3 := by simpa using (List.getElem?_eq_some_iff.mp hx).1
      match i, i3, hx, q with
      | 0, _, hx, q =>
        cases Option.some.inj hx
        refine ⟨rfl, yes_if ⟨_, rfl, by show 0 ≤ sizeLine; exact Nat.zero_le _, fun p hp => ?_⟩⟩
        have nF : F ≠ p := ne_of_none q hp
        have sp := snew (o := .lst []) hp
        refine ⟨_, .inr "order", rfl, sp _ _ q, by show 0 < sizeLine; decide, upd_same_new (s1.trans sp) hF, p, ?_, ?_, s1.free hp⟩
        · rw [upd_same]
          rfl
        · rw [upd_ne nF.symm, upd_same]
      | 1, _, hx, ⟨l1, q, q1, q3⟩ =>
        cases Option.some.inj hx
        refine ⟨rfl, yes_if ⟨_, rfl, by show 0 ≤ sizeLine; exact Nat.zero_le _, fun p hp => ?_⟩⟩
        have nF : F ≠ p := ne_of_none q hp
        have n1 : l1 ≠ p := ne_of_none q1 hp
        have m1 : l1 ≠ F := fun e => by rw [e, q] at q1; cases q1
        have sp := snew (o := .lst []) hp
        refine ⟨_, .inr "walk", rfl, sp _ _ q, by show 1 < sizeLine; decide, upd_same_new (s1.trans sp) hF, l1, p, ?_, ?_, ?_, n1, q3, s1.free hp⟩
        · rw [upd_same]
          rfl
        · rw [upd_ne m1]
          exact sp _ _ q1
        · rw [upd_ne nF.symm, upd_same]
      | 2, _, hx, ⟨l1, l2, q, q1, q2, n12, q3, q4⟩ =>
        cases Option.some.inj hx
        refine ⟨rfl, yes_if ⟨_, rfl, by show 0 ≤ sizeLine; exact Nat.zero_le _, fun p hp => ?_⟩⟩
        have nF : F ≠ p := ne_of_none q hp
        have n1 : l1 ≠ p := ne_of_none q1 hp
        have n2 : l2 ≠ p := ne_of_none q2 hp
        have m1 : l1 ≠ F := fun e => by rw [e, q] at q1; cases q1
        have m2 : l2 ≠ F := fun e => by rw [e, q] at q2; cases q2
        have sp := snew (o := .lst []) hp
        refine ⟨_, .inr "fill", rfl, sp _ _ q, by show 2 < sizeLine; decide, upd_same_new (s1.trans sp) hF, l1, l2, p, ?_, ?_, ?_, ?_, n12, n1, n2, q3, q4, s1.free hp⟩
        · rw [upd_same]
          rfl
        · rw [upd_ne m1]
          exact sp _ _ q1
        · rw [upd_ne m2]
          exact sp _ _ q2
        · rw [upd_ne nF.symm, upd_same]
    rintro H1 ⟨s1, l1, l2, l3, F1, b1, b2, b3, n12, n13, n23, c1, c2, c3⟩
    obtain ⟨g, g1, g2, g3⟩ : ∃ g : Str → Addr, g "order" = l1 ∧ g "walk" = l2 ∧ g "fill" = l3 := ⟨fun x => if x = "order" then l1 else if x = "walk" then l2 else l3, if_pos rfl, (if_neg (by decide +kernel)).trans (if_pos rfl), (if_neg (by decide +kernel)).trans (if_neg (by decide +kernel))⟩
    subst g1 g2 g3
    have cI : ∀ {a b : Str}, a ∈ kinds3 → b ∈ kinds3 → a ≠ b → g a ≠ g b := fun {a b} ha hb nab => by
      simp only [kinds3, List.mem_cons, List.not_mem_nil, or_false] at ha hb
      rcases ha with rfl | rfl | rfl <;> rcases hb with rfl | rfl | rfl
      · exact absurd rfl nab
      · exact n12
      · exact n13
      · exact n12.symm
      · exact absurd rfl nab
      · exact n23
      · exact n13.symm
      · exact n23.symm
      · exact absurd rfl nab
    have cN : ∀ {a : Str}, a ∈ kinds3 → H (g a) = none := fun {a} ha => by
      simp only [kinds3, List.mem_cons, List.not_mem_nil, or_false] at ha
      rcases ha with rfl | rfl | rfl <;> assumption
    have cL : ∀ {a : Str}, a ∈ kinds3 → H1 (g a) = some (.lst []) := fun {a} ha => by
      simp only [kinds3, List.mem_cons, List.not_mem_nil, or_false] at ha
      rcases ha with rfl | rfl | rfl <;> assumption
    have F1 : H1 F = some (.dK (byK g)) := F1
    clear b1 b2 b3 n12 n13 n23 c1 c2 c3
    have cF : ∀ {a : Str}, a ∈ kinds3 → g a ≠ F := fun {a} ha e => by
      have := cL ha
      rw [e, F1] at this
      cases this
    have hd1 := dxSame s1 _ _ hd
    refine ⟨_, rfl, [], v, w0, ns, ps, body, rfl, Live.nil, by rw [hid_nil]; exact hd1, pl, fun p xs H2 s2 t2 => ?_⟩
    rw [hid_nil] at t2
    have F2 := s2 _ _ F1
    have s02 := s1.trans s2
    have lx := t2.len
    have nlP : nl (.tuple (partsL ps body)) = true := nl_tup' fun x hx => by
      obtain ⟨n, e, rfl, ex, _⟩ := ok x hx
      exact nl_tup' fun z hz => by
        simp only [List.mem_cons, List.not_mem_nil, or_false] at hz
        rcases hz with rfl | rfl
        · rfl
        · exact nl_ex ex
    have okE : ∀ x ∈ partsL ps body, ∃ n e, x = .tuple [.str n, e] ∧ exD e = true := fun x hx => by
      obtain ⟨n, e, h1, h2, _⟩ := ok x hx
      exact ⟨n, e, h1, h2⟩
    refine ⟨p, rfl, ⟨_, t2.at_⟩, for_it (walk_tup (K := K) (a := p) (xs := xs)) (fun i σ Hc => ∃ (v2 v3 v4 v5 v6 : Option V), σ = [some v, some (.ref F), v2, v3, v4, v5, v6] ∧ Hc F = some (.dK (byK g)) ∧ Same H Hc ∧ Tst H2 Hc ∧ Lists K g (fun kd => plL kd ((partsL ps body).take i)) Hc)
      ⟨none, none, none, none, none, rfl, F2, s02, Tst.refl, fun _ => [], fun kd m => ⟨s2 _ _ (cL m), .nil⟩⟩ (fun _ _ _ _ ⟨_, _, _, _, _, _, _, _, f, _⟩ => f.sqT t2.at_) ?_ ?_⟩
    · rintro i y σ Hc Hc' hi ⟨v2, v3, v4, v5, v6, rfl, Fc, sc, tc, LF, fA⟩ ⟨rfl, hy⟩
      obtain ⟨dx, hdx, hxd⟩ := DxAll.atV t2.all hy
      have mdx := List.mem_of_getElem? hdx
      obtain ⟨nm, e, rfl, ex, we, de⟩ := ok dx mdx
      obtain ⟨b, ys, rfl, tb⟩ := (tc.dx (nl_mem nlP mdx) hxd).tupD
      obtain ⟨vm, ve, rfl⟩ := len2 tb.len
      obtain ⟨hvm, hve⟩ : Dx K Hc' vm (.str nm) ∧ Dx K Hc' ve e := by
        cases tb.all with
        | cons a r => cases r with
          | cons b _ => exact ⟨a, b⟩
      cases hvm
      have tk : (partsL ps body).take (i + 1) = (partsL ps body).take i ++ [.tuple [.str nm, e]] := by
        rw [List.take_succ, hdx]
        rfl
      have small : ∀ kd, (plL kd ((partsL ps body).take i)).length ≤ 100000 := fun kd => by
        have h1 := plL_len (kd := kd) (ds := (partsL ps body).take i) fun x m => okE x (List.mem_of_mem_take m)
        have h2 := wtA_app ((partsL ps body).take i) ((partsL ps body).drop i)
        rw [List.take_append_drop] at h2
        omega
      have ap : ∀ kd, plL kd ((partsL ps body).take (i + 1)) = plL kd ((partsL ps body).take i) ++ plPart kd (.tuple [.str nm, e]) := fun kd => by
        rw [tk, plL, List.flatMap_append, List.flatMap_singleton]
        rfl
      refine ⟨b, _, rfl, tb.at_, rfl, _, _, rfl, _, _, rfl, rfl, ?_⟩
      refine ⟨_, rfl, ve, e, rfl, hve, ex, by omega, de, fun q zs H3 hq s3 hz hA => ?_⟩
      have len := DxAll.len hA
      have nq : ∀ {a : Str}, a ∈ kinds3 → g a ≠ q := fun {a} ha => ne_of_none (fA a ha).1 hq
      have nFq : F ≠ q := ne_of_none Fc hq
      refine ⟨q, rfl, ⟨_, SqL.of hz⟩, for_it (walk_list (K := K) (a := q) (xs := zs)) (fun j σ Hd => ∃ (v4 v5 v6 : Option V), σ = [some v, some (.ref F), some (.str nm), some ve, v4, v5, v6] ∧ Hd F = some (.dK (byK g)) ∧ Same H Hd ∧ Tst H3 Hd ∧ Hd q = some (.lst zs) ∧ Lists K g (fun kd => plL kd ((partsL ps body).take i) ++ plT kd nm e j) Hd)
        ⟨v4, v5, v6, rfl, s3 _ _ Fc, sc.trans s3, Tst.refl, hz, LF, fun kd m => ⟨s3 _ _ (fA kd m).1, by show DxAll K H3 (LF kd) (plL kd ((partsL ps body).take i) ++ []); rw [List.append_nil]; exact dxSameA s3 _ _ (fA kd m).2⟩⟩ (fun _ _ _ _ ⟨_, _, _, _, _, _, _, hq, _⟩ => SqL.of hq) ?_ ?_⟩
      · rintro j y2 σ Hd Hd' hj ⟨v4, v5, v6, rfl, Fd, sd, td, hz', LG, gA⟩ ⟨rfl, hy2⟩
        obtain ⟨dn, hn, hyn⟩ := DxAll.atV hA hy2
        have hyn := td.dx (by have := nlA_nodes ex; rw [nlA_all, List.all_eq_true] at this; exact this dn (List.mem_of_getElem? hn)) hyn
        obtain ⟨en, hE, rfl⟩ := map_at hn
        obtain ⟨hexE, hwE, _⟩ := nodesL_ok ex en (List.mem_of_getElem? hE)
        obtain ⟨h, r, eE, okN, _⟩ := ex_node hexE
        have tk2 : (nodesL [] e).take (j + 1) = (nodesL [] e).take j ++ [en] := by
          rw [List.take_succ, hE]
          rfl
        have pt : ∀ kd, plT kd nm e (j + 1) = plT kd nm e j ++ (if openE kd en.2 = true then [PyData.tuple [.str nm, pathD en.1]] else []) := fun kd => by
          unfold plT
          rw [tk2, List.filter_append, List.map_append, List.filter_cons, List.filter_nil]
          cases openE kd en.2 <;> rfl
        obtain ⟨a, us, rfl, te⟩ := hyn.tupD
        obtain ⟨vp, vx, rfl⟩ := len2 te.len
        obtain ⟨hvp, hvx⟩ : Dx K Hd' vp (pathD en.1) ∧ Dx K Hd' vx en.2 := by
          cases te.all with
          | cons a r => cases r with
            | cons b _ => exact ⟨a, b⟩
        have oE : ∀ {kd}, kd ∈ kinds3 → openE kd en.2 = decide (opK h r = some kd) := fun {kd} m => by
          rw [eE]
          exact opK_is m h r
        rw [eE] at hvx
        refine ⟨a, _, rfl, te.at_, rfl, _, _, rfl, _, _, rfl, rfl, ?_⟩
        refine ⟨_, rfl, vx, h, r, rfl, hvx, ?_⟩
        cases c : opK h r with
        | none =>
          have ev : opV h r = .non := by unfold opV; rw [c]
          rw [ev]
          refine ⟨_, rfl, _, rfl, iteF ?_⟩
          refine ⟨_, _, _, rfl, Fd, sd, td, hz', LG, fun kd m => ?_⟩
          have := oE m
          rw [c] at this
          refine ⟨(gA kd m).1, ?_⟩
          show DxAll K Hd' (LG kd) (plL kd ((partsL ps body).take i) ++ plT kd nm e (j + 1))
          rw [pt, this]
          simpa using (gA kd m).2
        | some kd =>
          have mk : kd ∈ kinds3 := by
            unfold opK at c
            split at c
            · split at c
              · cases c
                decide +kernel
              · cases c
            · split at c
              · split at c
                · cases c
                  decide +kernel
                · cases c
              · split at c
                · cases c
                  decide +kernel
                · cases c
          have ev : opV h r = .str kd := by unfold opV; rw [c]
          rw [ev]
          refine ⟨_, rfl, _, rfl, iteT ?_⟩
          have gt : DGet Hd' F (.str kd) (some (.ref (g kd))) := by
            have := DGet.k (k := .inr kd) Fd
            rw [byK_get g mk] at this
            exact this
          obtain ⟨gl, ga⟩ := gA kd mk
          refine ⟨_, rfl, _, rfl, F, _, rfl, gt, .inl ⟨rfl, _, SqL.of gl⟩, _, rfl, _, rfl, by show 2 ≤ sizeLine; decide, fun t ht => ?_⟩
          have st : Same Hd' (upd Hd' t (.tup [.str nm, vp])) := snew ht
          have T1 : Tst Hd' (upd (upd Hd' t (.tup [.str nm, vp])) (g kd) (.lst (LG kd ++ [.ref t]))) := (Tst.of st).trans (Tst.set (o := .lst (LG kd)) (st _ _ gl) trivial)
          have tt : TupD K (upd Hd' t (.tup [.str nm, vp])) t [.str nm, vp] [.str nm, pathD en.1] := ⟨SqT.of upd_same, .cons (.str nm) (.cons (dxSame st _ _ hvp) .nil)⟩
          have nlT : nl (.tuple [.str nm, pathD en.1]) = true := nl_tup' fun z hz => by
            simp only [List.mem_cons, List.not_mem_nil, or_false] at hz
            rcases hz with rfl | rfl
            · rfl
            · exact nl_path en.1
          have nlU : ∀ k2, nlA (plL k2 ((partsL ps body).take i) ++ plT k2 nm e j) = true := fun k2 => by
            rw [nlA_all, List.all_append, Bool.and_eq_true, ← nlA_all, ← nlA_all]
            exact ⟨nl_plL, nl_plT⟩
          refine ⟨g kd, LG kd, _, rfl, rfl, st _ _ gl, ?_, _, _, _, rfl, ?_, upd_same_new (sd.trans st) (cN mk), td.trans T1, ?_, fun k2 => if k2 = kd then LG kd ++ [.ref t] else LG k2, fun k2 m2 => ?_⟩
          · have l1 := DxAll.len ga
            rw [List.length_append] at l1
            have l2 := small kd
            have l3 := plT_len (kd := kd) (nm := nm) ex (j := j)
            rw [sizeLine_eq]
            omega
          · rw [upd_ne (cF mk).symm]
            exact st _ _ Fd
          · rw [upd_ne (nq mk).symm]
            exact st _ _ hz'
          · have oe := oE m2
            rw [c] at oe
            by_cases e2 : k2 = kd
            · subst e2
              refine ⟨by show _ = some (HO.lst (if k2 = k2 then LG k2 ++ [.ref t] else LG k2)); rw [if_pos rfl]; exact upd_same, ?_⟩
              show DxAll K _ (if k2 = k2 then LG k2 ++ [.ref t] else LG k2) (plL k2 ((partsL ps body).take i) ++ plT k2 nm e (j + 1))
              rw [if_pos rfl, pt, oe, if_pos (decide_eq_true rfl), ← List.append_assoc]
              exact DxAll.app (T1.dxA (nlU k2) ga) (.cons ((Tst.set (o := .lst (LG k2)) (st _ _ gl) trivial).tupD nlT tt).dx .nil)
            · obtain ⟨gl2, ga2⟩ := gA k2 m2
              refine ⟨?_, ?_⟩
              · show _ = some (HO.lst (if k2 = kd then LG kd ++ [.ref t] else LG k2))
                rw [upd_ne (cI m2 mk e2), if_neg e2]
                exact st _ _ gl2
              · show DxAll K _ (if k2 = kd then LG kd ++ [.ref t] else LG k2) (plL k2 ((partsL ps body).take i) ++ plT k2 nm e (j + 1))
                rw [if_neg e2]
                have : decide (some kd = some k2) = false := decide_eq_false fun z => e2 (Option.some.inj z).symm
                rw [pt, oe, this, if_neg Bool.false_ne_true, List.append_nil]
                exact T1.dxA (nlU k2) ga2
      · rintro σ Hd ⟨v4, v5, v6, rfl, Fd, sd, td, hz', LG, gA⟩
        refine ⟨_, _, _, _, _, rfl, Fd, sd, (tc.trans (Tst.of s3)).trans td, LG, fun kd m => ⟨(gA kd m).1, ?_⟩⟩
        show DxAll K Hd (LG kd) (plL kd ((partsL ps body).take (i + 1)))
        rw [ap]
        have := (gA kd m).2
        have e1 : (nodesL [] e).take zs.length = nodesL [] e := List.take_of_length_le (by rw [len, nodesD, List.length_map]; exact Nat.le_refl _)
        unfold plT at this
        rw [e1] at this
        show DxAll K Hd (LG kd) (_ ++ (((nodesL [] e).filter fun q => openE kd q.2).map (·.1)).map _)
        rw [List.map_map]
        exact this
    · rintro σ Hc ⟨v2, v3, v4, v5, v6, rfl, Fc, sc, tc, LF, fA⟩
      rw [lx, List.take_length] at fA
      exact ⟨_, rfl, k F g Hc sc Fc ⟨LF, fA⟩⟩
theorem scPlacesOf : FnScope ["program", "kind"] ["program", "kind"] (defScope sPlacesOf) := ⟨rfl, rfl, rfl, by decide +kernel, rfl, by decide +kernel, by decide +kernel⟩
theorem hPlacesOf (D : DS K mg) (T : TF mg) (W : TT K w mg) (A0 : TA0 K mg) : Has P w K mg base CX0 "places_of" sPlacesOf ["program", "kind"] 4 (spPlacesOf K) := by
  have hPlacesByKind : Has P w K mg base CX0 _ _ _ 3 _ := hPlacesByKind D T W A0
  refine Has.mk0 D.aPlacesOf scPlacesOf (fun _ _ _ _ _ _ us hl => match us, hl with | [_, _], _ => rfl) (fun vs H Q E h => ?_) (fun cdv A outer s H vs Q E hr h => ?_)
  · obtain ⟨v, kd, w0, ns, ps, body, rfl, _⟩ := h
    rfl
  · obtain ⟨v, kd, w0, ns, ps, body, rfl, mk, hd, hnl, ok, hw, pl, k⟩ := h
    refine ⟨_, (pss_one (ps_ret (pe_callTy call_tuple_of (by rfl) T.tuple (by decide +kernel) (pa_cons (pe_dget (hu_of hr) (pe_fn hPlacesByKind (hr.mono (by decide)) (by rfl) (pa_cons (pv 0) pa_nil)) (pv 1) (fun _ _ => rfl)) pa_nil)))), ?_⟩
    refine ⟨_, rfl, v, w0, ns, ps, body, rfl, hd, hnl, ok, hw, pl, fun F g H1 s1 F1 ⟨LF, fA⟩ => ⟨_, rfl, F, _, rfl, ?_, g kd, LF kd, rfl, .inl ⟨SqL.of (fA kd mk).1, fun q hq => ?_⟩⟩⟩
    · have := DGet.k (k := .inr kd) F1
      rw [byK_get g mk] at this
      exact this
    · exact k q (LF kd) _ (s1.trans (snew hq)) ⟨SqT.of upd_same, dxSameA (snew hq) _ _ (fA kd mk).2⟩
end
end Any
set_option Elab.async false
set_option linter.all false
set_option maxRecDepth 100000
set_option maxHeartbeats 4000000
/-! places, with what it refuses. -/
namespace Any
open PySem PySem.Spec PyProof.Rows L2 RT
open He (ga ma)
theorem Has.mkX {P : Program} {w : World} {K : PySem.W.Frag} {mg : Str → Option Value} {base : Heap} {nm : Str} {st : Stmt} {N ps : List Str} {k : Nat} {sp : Sp} (D : At K mg nm st) (S : FnScope N ps (defScope st))
    (hb : ∀ (kV doc pm : Value) (an : Option Addr) (cdv ct : Value) (us : List Value), us.length = ps.length → bindArgs (PySem.W.fnOf nm nm (defArgs st) (defBody st) (defScope st) .none kV doc pm an cdv ct) ⟨us, []⟩ = pure (ps.zip us))
    (len : ∀ vs H Q E, sp vs H Q E → vs.length = ps.length)
    (body : ∀ (cdv : Value) (A : Around) (outer : List Env) (s : Shared) (H : Hp) (vs : List V) (Q : VK) (E : XK), Room k (A.deeper (envOfC nm (defScope st) s.heap.objs.size (ga K nm) cdv)) → sp vs H Q E →
      ∃ t, PSs (cxOf (L2.CX P w) P w K mg base N nm (defScope st) (ga K nm) cdv A outer s H E) (defBody st) t ∧ t { nx := fun _ H' => Q .non H', rt := Q } (start N vs) H) : Has P w K mg base (L2.CX P w) nm st ps (k + 1) sp := by
  obtain ⟨fd, F⟩ := D.ex
  exact ⟨⟨fd, F, F.okX S len body, F.binds hb⟩, D.g, F.kp⟩
/-- an own error's class -/
structure EClass (K : PySem.W.Frag) (mg : Str → Option Value) (nm : Str) : Prop where
  g : mg nm = some (.ref (ga K nm))
  k : PySem.W.keepIn K (.ref (ga K nm)) = true
  x : PySem.W.excIn K (ga K nm) [.type "ValueError", .type "Exception", .type "BaseException", .type "object"] "ValueError.__new__" = true
  b : PySem.W.subIn K (.ref (ga K nm)) (.type "BaseException") = some true
  t : PySem.W.typeIn K (.ref (ga K nm)) = some (.type "type")
def kindD (k : PyData) : Bool := Exq.oneOf ["order", "walk", "fill"] k
def spPlaces (K : PySem.W.Frag) : Sp := fun vs H Q E => ∃ v d kv kd, vs = [v, kv] ∧ Dx K H v d ∧ Dx K H kv kd ∧ wt d < 16000 ∧ d.depth ≤ 1000 ∧
  (progD d = false → ∀ H', Same H H' → E (.ref (ga K "BadProgram")) none H') ∧
  (progD d = true → kindD kd = false → ∀ H', Same H H' → E (.ref (ga K "BadKind")) none H') ∧
  (progD d = true → kindD kd = true → ∃ kn w0 ns ps body, kd = .str kn ∧ d = .tuple [w0, ns, .tuple ps, body] ∧ ∀ p xs H', Same H H' → TupD K H' p xs (plL kn (partsL ps body)) → Q (.ref p) H')
theorem prog_parts {d : PyData} (h : progD d = true) (hw : wt d < 16000) (hd : d.depth ≤ 1000) : ∃ w0 ns ps body, d = .tuple [w0, ns, .tuple ps, body] ∧ partsOk (partsL ps body) ∧ wtA (partsL ps body) ≤ 100000 ∧ ps.length ≤ 1000 := by
  have h0 := h
  unfold progD at h
  split at h
  · rename_i w0 ns ps body
    simp only [Bool.and_eq_true] at h
    obtain ⟨_, h2, h3, h4⟩ := h
    refine ⟨_, _, _, _, rfl, ?_, ?_, ?_⟩
    · intro x hx
      obtain ⟨n, e, rfl, ex⟩ := progL_each h4 x hx
      refine ⟨n, e, rfl, ex, ?_⟩
      unfold partsL at hx
      rcases List.mem_append.mp hx with m | m
      · have h1 := wtA_mem m
        have h2 := Exq.depth_mem m
        have h5 := Exq.depth_mem (xs := [PyData.str n, e]) (x := e) (by simp)
        rw [depth_tup] at h2
        have h6 : (PyData.tuple ps).depth = PyData.depthAll ps + 1 := rfl
        have h7 := Exq.depth_mem (xs := [PyData.str w0, .tuple ns, .tuple ps, body]) (x := .tuple ps) (by simp)
        rw [depth_tup] at hd
        simp only [wt, wtA] at h1 hw
        omega
      · cases List.mem_singleton.mp m
        have h7 := Exq.depth_mem (xs := [PyData.str w0, .tuple ns, .tuple ps, body]) (x := body) (by simp)
        rw [depth_tup] at hd
        simp only [wt, wtA] at hw
        omega
    · unfold partsL
      rw [wtA_app]
      simp only [wt, wtA] at hw ⊢
      have : ("body" : Str).length = 4 := by decide +kernel
      omega
    · rw [partsD_tup] at h3
      simp only [Bool.and_eq_true, decide_eq_true_eq] at h3
      omega
  · cases h
theorem nl_prog {d : PyData} (h : progD d = true) : nl d = true := by
  unfold progD at h
  split at h
  · rename_i w0 ns ps body
    simp only [Bool.and_eq_true] at h
    obtain ⟨_, h2, h3, h4⟩ := h
    rw [varsD_tup] at h2
    simp only [Bool.and_eq_true] at h2
    have each : ∀ x ∈ partsL ps body, nl x = true := fun x hx => by
      obtain ⟨n, e, rfl, ex⟩ := progL_each h4 x hx
      exact nl_tup' fun z hz => by
        simp only [List.mem_cons, List.not_mem_nil, or_false] at hz
        rcases hz with rfl | rfl
        · rfl
        · exact nl_ex ex
    have hb : nl body = true := nl_mem (each (.tuple [.str "body", body]) (by simp [partsL])) (by simp)
    refine nl_tup' fun z hz => ?_
    simp only [List.mem_cons, List.not_mem_nil, or_false] at hz
    rcases hz with rfl | rfl | rfl | rfl
    · rfl
    · exact nl_tup' fun y hy => by
        obtain ⟨s, rfl, _⟩ := nmD_str (List.all_eq_true.mp h2.2.1 y hy)
        rfl
    · exact nl_tup' fun y hy => each y (List.mem_append_left _ hy)
    · exact hb
  · cases h
end Any
set_option Elab.async false
set_option linter.all false
set_option maxRecDepth 100000
set_option maxHeartbeats 4000000
/-! The law's own forms of what is flat. -/
namespace Any
open PySem PySem.Spec PyProof.Rows L2 RT
open He (ga ma)
/-! ### data of plain texts -/
def ascS (x : Str) : Bool := x.cps.toList.all fun c => decide (c < 128)
mutual
def asc : PyData → Bool
  | .list ds => ascA ds
  | .dict ds => ascK ds
  | .tuple ds => ascA ds
  | .none => true
  | .bool _ => true
  | .int _ => true
  | .str x => ascS x
def ascA : List PyData → Bool
  | [] => true
  | d :: ds => asc d && ascA ds
def ascK : List (PyData × PyData) → Bool
  | [] => true
  | (k, d) :: ds => asc k && (asc d && ascK ds)
end
theorem ascS_asc {x : Str} (h : ascS x = true) : Asc x := fun c hc => of_decide_eq_true (List.all_eq_true.mp h c hc)
theorem ascA_all : ∀ ds : List PyData, ascA ds = ds.all asc
  | [] => rfl
  | d :: ds => by
    show (asc d && ascA ds) = _
    rw [ascA_all ds]
    rfl
theorem asc_tup {ds : List PyData} : asc (.tuple ds) = ds.all asc := ascA_all ds
theorem asc_tup' {ds : List PyData} (h : ∀ d ∈ ds, asc d = true) : asc (.tuple ds) = true := asc_tup.trans (List.all_eq_true.mpr h)
theorem asc_mem {ds : List PyData} (h : asc (.tuple ds) = true) {d : PyData} (m : d ∈ ds) : asc d = true := List.all_eq_true.mp (asc_tup.symm.trans h) d m
theorem canAll {α : Type} {f : α → PyData} : ∀ {xs : List α}, (∀ x ∈ xs, (f x).canLay0 = true) → PyData.canLayAll0 (xs.map f) = true
  | [], _ => rfl
  | x :: xs, h => by
    show (PyData.canLay0 (f x) && PyData.canLayAll0 (xs.map f)) = true
    rw [h x (List.mem_cons_self ..), canAll fun y hy => h y (List.mem_cons_of_mem _ hy)]
    rfl
theorem depthAll_le {α : Type} {f : α → PyData} {n : Nat} : ∀ {xs : List α}, (∀ x ∈ xs, (f x).depth ≤ n) → PyData.depthAll (xs.map f) ≤ n
  | [], _ => Nat.zero_le _
  | x :: xs, h => Nat.max_le.mpr ⟨h x (List.mem_cons_self ..), depthAll_le fun y hy => h y (List.mem_cons_of_mem _ hy)⟩
theorem asc_ok {x : Str} (h : Asc x) : PyData.strOk x = true := by
  unfold PyData.strOk
  rw [← Array.all_toList]
  exact List.all_eq_true.mpr fun c hc => decide_eq_true (Nat.lt_trans (h c hc) (by decide))
theorem shaped_strs {xs : List Str} (h : ∀ x ∈ xs, Asc x) : SeqAt.shaped (.list (xs.map PyData.str)) = true := by
  unfold SeqAt.shaped
  rw [Bool.and_eq_true]
  refine ⟨canAll fun x hx => asc_ok (h x hx), decide_eq_true ?_⟩
  show PyData.depthAll _ + 1 ≤ 64
  have := depthAll_le (f := PyData.str) (n := 0) (xs := xs) fun x _ => Nat.le_refl _
  omega
theorem filter_snoc {p : Nat → Bool} {x : Str} {i c : Nat} (h : x.cps[i]? = some c) : ((x.cps.toList.take (i + 1)).filter p) = (x.cps.toList.take i).filter p ++ (if p c = true then [c] else []) := by
  have h2 : x.cps.toList[i]? = some c := by simpa using h
  rw [List.take_succ, h2, List.filter_append]
  show _ ++ List.filter p [c] = _
  cases e : p c <;> simp [e]
theorem filter_all {p : Nat → Bool} : ∀ (l : List Nat), (l.filter fun c => !p c) = [] ↔ l.all p = true
  | [] => by simp
  | c :: l => by
    rw [List.all_cons, List.filter_cons]
    cases e : p c
    · simp
    · simp [filter_all l]
def spRes (K : PySem.W.Frag) : Sp := fun vs H Q _ => vs = [] ∧ ∀ l H', H l = none → Same H H' → H' l = some (.lst keptV) → Q (.ref l) H'
def spOps (K : PySem.W.Frag) : Sp := fun vs H Q _ => vs = [] ∧ ∀ l H', H l = none → Same H H' → H' l = some (.lst (Exq.opsN.map V.str)) → Q (.ref l) H'
def spOne (K : PySem.W.Frag) : Sp := fun vs H Q _ => ∃ v d p ws, vs = [.ref p, v] ∧ Dx K H v d ∧ SqL K H p (ws.map V.str) ∧ Q (.bl (Exq.oneOf ws d)) H
def spLNm (K : PySem.W.Frag) : Sp := fun vs H Q _ => ∃ v d, vs = [v] ∧ Dx K H v d ∧ (∀ x, d = .str x → x.length ≤ 100000) ∧ asc d = true ∧ ∀ H', Same H H' → Q (.bl (nmD d)) H'
section
variable {P : Program} {w : World} {K : PySem.W.Frag} {mg : Str → Option Value} {base : Heap}
theorem scLawReserved : FnScope ["some"] [] (defScope sLawReserved) := ⟨rfl, rfl, rfl, by decide +kernel, rfl, by decide +kernel, by decide +kernel⟩
theorem hLawReserved (D : DS K mg) : Has P w K mg base CX0 "_law_reserved" sLawReserved [] 1 (spRes K) := by
  refine Has.mk0 D.aLawReserved scLawReserved (fun _ _ _ _ _ _ us hl => match us, hl with | [], _ => rfl) (fun vs H Q E h => ?_) (fun cdv A outer s H vs Q E hr h => ?_)
  · obtain ⟨rfl, _⟩ := h
    rfl
  · obtain ⟨rfl, k⟩ := h
    refine ⟨_, (pss_cons (ps_set (i := 0) scLawReserved.nd rfl (Or.inl rfl) (pe_lst (pa_cons pe_str (pa_cons pe_str (pa_cons pe_str (pa_cons pe_str (pa_cons pe_str (pa_cons pe_str (pa_cons pe_str (pa_cons pe_str (pa_cons pe_str (pa_cons pe_str (pa_cons pe_str (pa_cons pe_str (pa_cons pe_str (pa_cons pe_str pa_nil))))))))))))))))
      (pss_cons (ps_set (i := 0) scLawReserved.nd rfl (Or.inl rfl) (pe_op op_cat (pv 0) (pe_lst (pa_cons pe_str (pa_cons pe_str (pa_cons pe_str (pa_cons pe_str (pa_cons pe_str (pa_cons pe_str (pa_cons pe_str (pa_cons pe_str (pa_cons pe_str (pa_cons pe_str (pa_cons pe_str (pa_cons pe_str pa_nil)))))))))))))))
      (pss_one (ps_ret (pe_op op_cat (pv 0) (pe_lst (pa_cons pe_str (pa_cons pe_str (pa_cons pe_str (pa_cons pe_str (pa_cons pe_str (pa_cons pe_str (pa_cons pe_str (pa_cons pe_str (pa_cons pe_str (pa_cons pe_str (pa_cons pe_str pa_nil))))))))))))))))), ?_⟩
    refine ⟨by show 14 ≤ sizeLine; decide, fun l1 h1 => ?_⟩
    refine ⟨_, rfl, by show 12 ≤ sizeLine; decide, fun l2 h2 => ?_⟩
    refine ⟨_, _, _, _, rfl, rfl, snew h2 _ _ upd_same, upd_same, by show 26 ≤ sizeLine; decide, fun l3 h3 => ?_⟩
    refine ⟨_, rfl, by show 11 ≤ sizeLine; decide, fun l4 h4 => ?_⟩
    refine ⟨_, _, _, _, rfl, rfl, snew h4 _ _ upd_same, upd_same, by show 37 ≤ sizeLine; decide, fun l5 h5 => ?_⟩
    exact k l5 _ ((((snew h1).trans (snew h2)).trans (snew h3)).trans (snew h4) |>.free h5) (((((snew h1).trans (snew h2)).trans (snew h3)).trans (snew h4)).trans (snew h5)) upd_same
theorem scLawOps : FnScope [] [] (defScope sLawOps) := ⟨rfl, rfl, rfl, by decide +kernel, rfl, by decide +kernel, by decide +kernel⟩
theorem hLawOps (D : DS K mg) : Has P w K mg base CX0 "_law_ops" sLawOps [] 1 (spOps K) := by
  refine Has.mk0 D.aLawOps scLawOps (fun _ _ _ _ _ _ us hl => match us, hl with | [], _ => rfl) (fun vs H Q E h => ?_) (fun cdv A outer s H vs Q E hr h => ?_)
  · obtain ⟨rfl, _⟩ := h
    rfl
  · obtain ⟨rfl, k⟩ := h
    refine ⟨_, (pss_one (ps_ret (pe_lst (pa_cons pe_str (pa_cons pe_str (pa_cons pe_str (pa_cons pe_str (pa_cons pe_str (pa_cons pe_str pa_nil))))))))), ?_⟩
    exact ⟨by show 6 ≤ sizeLine; decide, fun l1 h1 => k l1 _ h1 (snew h1) upd_same⟩
theorem scLawIsWhole : FnScope ["thing"] ["thing"] (defScope sLawIsWhole) := ⟨rfl, rfl, rfl, by decide +kernel, rfl, by decide +kernel, by decide +kernel⟩
theorem hLawIsWhole (D : DS K mg) (T : TF mg) : Has P w K mg base CX0 "_law_is_whole" sLawIsWhole ["thing"] 1 (spNum K) := by
  refine Has.mk0 D.aLawIsWhole scLawIsWhole (fun _ _ _ _ _ _ us hl => match us, hl with | [_], _ => rfl) (fun vs H Q E h => ?_) (fun cdv A outer s H vs Q E hr h => ?_)
  · obtain ⟨v, d, rfl, _⟩ := h
    rfl
  · obtain ⟨v, d, rfl, hd, k⟩ := h
    refine ⟨_, (pss_one (ps_ret (pe_and (pe_callB call_isi (by rfl) T.isinstance (by decide +kernel) (pa_cons (pv 0) (pa_cons (pe_bltn (v := .ty "int") (by rfl) T.int (by decide +kernel) rfl) pa_nil))) (pe_one (pe_not (pe_callB call_isi (by rfl) T.isinstance (by decide +kernel) (pa_cons (pv 0) (pa_cons (pe_bltn (v := .ty "bool") (by rfl) T.bool (by decide +kernel) rfl) pa_nil)))))))), ?_⟩
    refine ⟨_, rfl, _, _, _, _, _, rfl, .ty "int", hd.ty, kit_ty (kit_int d), _, rfl, ?_⟩
    refine ite2 (fun c => ?_) (fun c => ?_)
    · refine ⟨_, rfl, _, _, _, _, _, rfl, .ty "bool", hd.ty, kit_ty (kit_bool d), _, rfl, ?_⟩
      cases d with
      | int i => exact k
      | bool b => exact k
      | _ => exact absurd c (by simp [isTy, isTyS, tyN])
    · cases d with
      | int i => exact absurd rfl c
      | _ => exact k
theorem scLawIsOne : FnScope ["options", "thing"] ["options", "thing"] (defScope sLawIsOne) := ⟨rfl, rfl, rfl, by decide +kernel, rfl, by decide +kernel, by decide +kernel⟩
theorem hLawIsOne (D : DS K mg) (T : TF mg) : Has P w K mg base CX0 "_law_is_one" sLawIsOne ["options", "thing"] 2 (spOne K) := by
  have hLawIsWhole : Has P w K mg base CX0 _ _ _ 1 _ := hLawIsWhole D T
  refine Has.mk0 D.aLawIsOne scLawIsOne (fun _ _ _ _ _ _ us hl => match us, hl with | [_, _], _ => rfl) (fun vs H Q E h => ?_) (fun cdv A outer s H vs Q E hr h => ?_)
  · obtain ⟨v, d, p, ws, rfl, _⟩ := h
    rfl
  · obtain ⟨v, d, p, ws, rfl, hd, hw, k⟩ := h
    refine ⟨_, (pss_one (ps_ret (pe_and (pe_or (pe_fn hLawIsWhole (hr.mono (by decide)) (by rfl) (pa_cons (pv 1) pa_nil)) (pe_one (pe_callB call_isi (by rfl) T.isinstance (by decide +kernel) (pa_cons (pv 1) (pa_cons (pe_bltn (v := .ty "str") (by rfl) T.str (by decide +kernel) rfl) pa_nil))))) (pe_one (pe_cmpR op_in_seq (pv 1) (pv 0) (by rfl)))))), ?_⟩
    refine ⟨_, rfl, v, d, rfl, hd, _, rfl, ?_⟩
    cases d with
    | int i =>
      cases hd
      refine iteT ⟨_, rfl, ?_⟩
      refine iteT ?_
      refine ⟨_, rfl, _, rfl, p, _, rfl, .inl hw, rfl, flat_strs ws, ?_⟩
      have : inV (.int i) (ws.map V.str) = false := by
        unfold inV
        rw [List.any_map]
        exact List.any_eq_false.mpr fun x _ => by simp [eqV]
      rw [if_neg Bool.false_ne_true, this]
      exact k
    | str x =>
      cases hd
      refine iteF ?_
      refine ⟨_, rfl, _, _, _, _, _, rfl, .ty "str", .base (.str x), kit_ty (by decide +kernel), true, rfl, ?_⟩
      refine iteT ?_
      refine ⟨_, rfl, _, rfl, p, _, rfl, .inl hw, rfl, flat_strs ws, ?_⟩
      rw [if_neg Bool.false_ne_true, inV_strs]
      exact k
    | _ =>
      refine iteF ?_
      refine ⟨_, rfl, _, _, _, _, _, rfl, .ty "str", hd.ty, kit_ty (kit_str _), _, rfl, ?_⟩
      exact k
theorem scLawIsName : FnScope ["thing", "letter"] ["thing"] (defScope sLawIsName) := ⟨rfl, rfl, rfl, by decide +kernel, rfl, by decide +kernel, by decide +kernel⟩
theorem hLawIsName (D : DS K mg) (T : TF mg) : Has P w K mg base CX0 "_law_is_name" sLawIsName ["thing"] 2 (spLNm K) := by
  have hLawReserved : Has P w K mg base CX0 _ _ _ 1 _ := hLawReserved D
  refine Has.mk0 D.aLawIsName scLawIsName (fun _ _ _ _ _ _ us hl => match us, hl with | [_], _ => rfl) (fun vs H Q E h => ?_) (fun cdv A outer s H vs Q E hr h => ?_)
  · obtain ⟨v, d, rfl, _⟩ := h
    rfl
  · obtain ⟨v, d, rfl, hd, hl, ha, k0⟩ := h
    have h : (∃ x : Str, v = .str x ∧ x.length ≤ 100000 ∧ Asc x ∧ ∀ H', Same H H' → Q (.bl (isNm x)) H') ∨ ((∃ t, TyX K H v (.type t) ∧ kitB t "str" = some false) ∧ ∀ H', Same H H' → Q (.bl false) H') := by
      cases d with
      | str x =>
        cases hd
        exact .inl ⟨x, rfl, hl x rfl, ascS_asc ha, k0⟩
      | _ => exact .inr ⟨⟨_, hd.ty, by rw [kit_str]; rfl⟩, k0⟩
    refine ⟨_, (pss_cons (ps_if (PW.pt (pw_or (pt_not (pt_val (pe_callB call_isi (by rfl) T.isinstance (by decide +kernel) (pa_cons (pv 0) (pa_cons (pe_bltn (v := .ty "str") (by rfl) T.str (by decide +kernel) rfl) pa_nil))))) (pw_or (pt_not (pt_chain op_le op_le pe_int (pe_callB call_len_str (by rfl) T.len PySem.boot_len (pa_cons (pv 0) pa_nil)) pe_int)) (pw_or1 (pt_cmpR op_in_seq (pv 0) (pe_fn0 hLawReserved (hr.mono (by decide)) (by rfl)) (by rfl))))))
        (pss_one (ps_ret pe_bl))
        pss_nil)
      (pss_one (ps_ret (pe_cmpR (op_eqD hr.units) (pe_lc (own := [("letter", 1)]) (g := (gName 1)) rfl scLawIsName.nd (pi_str (pv 0)) (blkOk_by (own := [("letter", 1)]) (N := ["thing", "letter"]) (sc := defScope sLawIsName) (by decide +kernel)) (fun _ _ _ _ _ => (pg_name (i := 1) scLawIsName.nd rfl (Or.inl rfl))) (fun _ _ _ _ _ => pts_one (pt_cmpR op_notIn_sign (pv 1) pe_str (by rfl))) (fun _ _ _ _ _ => (pv 1))) (pe_lst pa_nil) (nomark _))))), ?_⟩
    rcases h with ⟨x, rfl, hx, hasc, k⟩ | ⟨⟨t, ty, kt⟩, k⟩
    · refine ⟨_, rfl, _, _, _, _, true, rfl, .ty "str", .base (.str x), kit_ty (by decide +kernel), true, rfl, ?_⟩
      refine iteF ?_
      have hz : x.length ≤ sizeLine := line_le (by omega)
      refine ⟨_, rfl, _, rfl, hz, _, _, rfl, rfl, _, rfl, ?_⟩
      have stop : lenOk x = false → Q (.bl false) H := fun e => by
        have := k H rsame
        unfold isNm at this
        rw [e, Bool.false_and] at this
        exact this
      refine ite2 (fun c1 => ?_) (fun c1 => ?_)
      · refine ⟨_, _, rfl, rfl, _, rfl, ?_⟩
        refine ite2 (fun c2 => ?_) (fun c2 => ?_)
        · have c2' : ¬ (x.length : Int) ≤ 8 := by simpa using c2
          exact stop (by unfold lenOk; rw [decide_eq_false c2', Bool.and_false])
        · have c2' : (x.length : Int) ≤ 8 := by simpa using c2
          have c1' : (1 : Int) ≤ (x.length : Int) := of_decide_eq_true c1
          have lk : lenOk x = true := by unfold lenOk; rw [decide_eq_true c1', decide_eq_true c2']; rfl
          refine ⟨_, rfl, rfl, fun l H1 hl s1 h1 => ⟨l, keptV, rfl, .inl (SqL.of h1), rfl, kept_flat, _, rfl, ?_⟩⟩
          have key : ∀ H', Same H H' → Q (.bl (x.cps.toList.all inLet && !inKept x)) H' := fun H' s => by
            have := k H' s
            unfold isNm at this
            rw [lk, Bool.true_and] at this
            exact this
          refine ite2 (fun c3 => ?_) (fun c3 => ?_)
          · have c3' : inKept x = true := c3
            have := key H1 s1
            rw [c3', Bool.not_true, Bool.and_false] at this
            exact this
          · have c3' : inKept x = false := Bool.eq_false_iff.mpr c3
            refine ⟨_, rfl, x, rfl, fun D hD => lc_it walk_str (fun i H2 => H2 = upd H1 D (.lst (((x.cps.toList.take i).filter fun c => !inLet c).map fun c => V.str ⟨#[c]⟩))) rfl (fun _ _ _ _ => True.intro) ?_ ?_⟩
            · rintro i v H2 H3 hi rfl ⟨rfl, c, hc, rfl⟩
              refine ⟨rfl, _, rfl, c, _, rfl, rfl, _, rfl, ?_⟩
              have fs := filter_snoc (p := fun c => !inLet c) hc
              refine ite2 (fun c4 => ?_) (fun c4 => ?_)
              · refine ⟨_, rfl, _, upd_same, ?_, ?_⟩
                · rw [List.length_map]
                  have hi' : i < x.length := hi
                  exact small1000 (Nat.le_trans (List.length_filter_le _ _) (by rw [List.length_take]; exact Nat.le_trans (Nat.min_le_left _ _) (by omega)))
                · rw [upd_upd, fs, if_pos (show (!inLet c) = true from c4), List.map_append]
                  rfl
              · rw [fs, if_neg (show ¬ (!inLet c) = true from c4), List.append_nil]
            · rintro H2 rfl
              have e1 : x.cps.toList.take x.cps.size = x.cps.toList := List.take_of_length_le (by simp)
              rw [e1]
              have s2 : Same H (upd H1 D (.lst ((x.cps.toList.filter fun c => !inLet c).map fun c => V.str ⟨#[c]⟩))) := s1.trans (snew hD)
              refine ⟨by show 0 ≤ sizeLine; exact Nat.zero_le _, fun l2 hl2 => ?_⟩
              have s3 := s2.trans (snew hl2 (o := .lst []))
              have hm : ∀ L : List Nat, DpAll K (upd (upd H1 D (.lst ((x.cps.toList.filter fun c => !inLet c).map fun c => V.str ⟨#[c]⟩))) l2 (.lst [])) (L.map fun c => V.str ⟨#[c]⟩) (L.map fun c => PyData.str ⟨#[c]⟩) := fun L => by
                induction L with
                | nil => exact .nil
                | cons c L ih => exact .cons (.str _) ih
              refine ⟨.list ((x.cps.toList.filter fun c => !inLet c).map fun c => PyData.str ⟨#[c]⟩), .list [], .lst (SqL.of (snew hl2 _ _ upd_same)) (hm _), .lst (SqL.of upd_same) .nil, ?_, rfl, ?_⟩
              · have e : ((x.cps.toList.filter fun c => !inLet c).map fun c => PyData.str ⟨#[c]⟩) = ((x.cps.toList.filter fun c => !inLet c).map fun c => (⟨#[c]⟩ : Str)).map PyData.str := by
                  rw [List.map_map]
                  rfl
                rw [e]
                refine shaped_strs fun y hy => ?_
                obtain ⟨c, hc, rfl⟩ := List.mem_map.mp hy
                intro d hd
                have ed : d = c := by simpa using hd
                rw [ed]
                exact hasc c (List.mem_filter.mp hc).1
              · have := key _ s3
                rw [c3', Bool.not_false, Bool.and_true] at this
                have e : PyData.eqv (.list ((x.cps.toList.filter fun c => !inLet c).map fun c => PyData.str ⟨#[c]⟩)) (.list []) = x.cps.toList.all inLet := by
                  have fa := filter_all (p := inLet) x.cps.toList
                  cases hL : x.cps.toList.filter fun c => !inLet c with
                  | nil =>
                    rw [fa.mp hL]
                    rfl
                  | cons c l =>
                    have : ¬ x.cps.toList.all inLet = true := fun z => by
                      rw [fa.mpr z] at hL
                      cases hL
                    rw [Bool.eq_false_iff.mpr this]
                    rfl
                rw [e]
                exact this
      · have c1' : ¬ (1 : Int) ≤ (x.length : Int) := by simpa using c1
        exact ⟨_, rfl, stop (by unfold lenOk; rw [decide_eq_false c1']; rfl)⟩
    · refine ⟨_, rfl, _, _, _, _, false, rfl, .ty "str", ty, kit_ty kt, false, rfl, ?_⟩
      exact k _ rsame
end
end Any
set_option Elab.async false
set_option linter.all false
set_option maxRecDepth 100000
set_option maxHeartbeats 4000000
/-! A row compared with the empty one. -/
namespace Any
open PySem PySem.Spec PyProof.Rows L2 RT
open He (ga ma)
def rEqE (K : PySem.W.Frag) : R2 := fun x y H Q => ∃ (a b : Addr) (xs : List V), x = V.ref a ∧ y = V.ref b ∧ ((SqT K H a xs ∧ SqT K H b []) ∨ (SqL K H a xs ∧ SqL K H b [])) ∧ Q (.bl xs.isEmpty) H
theorem op_eqE {X : Cx} {K : PySem.W.Frag} (e : X.K = K) (hu : X.A.units + 64 < cLine) : OpR X (compareOp .Eq) (rEqE K) := by
  subst e
  intro pins s σ H x y v u Q I rx ry h
  obtain ⟨a, b, xs, rfl, rfl, hs, q⟩ := h
  cases rx
  cases ry
  have hu' : X.A.units < cLine := by omega
  have len : ∀ {vs : List V} {us : List Value}, Vals vs us → us.toArray.size = vs.length := fun {vs us} r => by rw [r.length]; simp
  rcases hs with ⟨h1, h2⟩ | ⟨h1, h2⟩
  · obtain ⟨its, rv, ⟨o, ho, hc, n, hd⟩, _⟩ := I.tuple h1
    obtain ⟨its2, rv2, ⟨o2, ho2, hc2, n2, hd2⟩, _⟩ := I.tuple h2
    have l1 := len rv
    have l2 : its2.toArray.size = 0 := len rv2
    have ev : ((List.range (min its.toArray.size its2.toArray.size)).all (fun _ => true) && its.toArray.size == its2.toArray.size) = xs.isEmpty := by
      rw [l1, l2]
      cases xs with
      | nil => rfl
      | cons z zs => simp
    refine SeqAt.eq_tupleAt (items := its.toArray) (items2 := its2.toArray) (e := fun _ => true) ⟨o, ho, hc, n, hd⟩ ⟨o2, ho2, hc2, n2, hd2⟩ hu' (fun j h1 h2 => ?_) ?_
    · rw [l2] at h2
      exact absurd h2 (Nat.not_lt_zero _)
    · rw [ev]
      exact ⟨.bl _, H, I, rfl, q⟩
  · obtain ⟨its, rv, ⟨o, n, ho, hc, _, hd⟩, _⟩ := I.list h1
    obtain ⟨its2, rv2, ⟨o2, n2, ho2, hc2, _, hd2⟩, _⟩ := I.list h2
    have l1 := len rv
    have l2 : its2.toArray.size = 0 := len rv2
    by_cases z : its.toArray.size = its2.toArray.size
    · have ev : (List.range its.toArray.size).all (fun _ => true) = xs.isEmpty := by
        have : xs.length = 0 := by omega
        have : xs = [] := List.length_eq_zero_iff.mp this
        subst this
        simp
      refine SeqAt.eq_listAt (items := its.toArray) (items2 := its2.toArray) (e := fun _ => true) ⟨o, ho, hc, n, hd⟩ ⟨o2, ho2, hc2, n2, hd2⟩ z hu' (fun j h1 h2 => ?_) ?_
      · rw [l2] at h2
        exact absurd h2 (Nat.not_lt_zero _)
      · rw [ev]
        exact ⟨.bl _, H, I, rfl, q⟩
    · refine SeqAt.eq_list_lengthsAt (items := its.toArray) (items2 := its2.toArray) ⟨o, ho, hc, n, hd⟩ ⟨o2, ho2, hc2, n2, hd2⟩ (by simpa using z) hu' ?_
      have : xs.isEmpty = false := by
        cases xs with
        | nil =>
          simp only [List.length_nil] at l1
          omega
        | cons z zs => rfl
      rw [this] at q
      exact ⟨.bl _, H, I, rfl, q⟩
end Any
set_option Elab.async false
set_option linter.all false
set_option maxRecDepth 100000
set_option maxHeartbeats 4000000
/-! The law's own form of an expression. -/
namespace Any
open PySem PySem.Spec PyProof.Rows L2 RT
open He (ga ma)
/-- a op1 b op2 c op3 d, all looked at as a test -/
def tChain3 (r1 r2 r3 : R2) (ta tb tc td : TE) : L2.TT := fun σ H Q => ta σ H fun x H1 => tb σ H1 fun y H2 => r1 x y H2 fun z H3 => ∃ k, z = .bl k ∧
  (if k = true then tc σ H3 fun w H4 => r2 y w H4 fun z2 H5 => ∃ k2, z2 = .bl k2 ∧ (if k2 = true then td σ H5 fun v H6 => r3 w v H6 fun z3 H7 => ∃ k3, z3 = .bl k3 ∧ Q k3 H7 else Q false H5) else Q false H3)
theorem pt_chain3 {X : Cx} {op1 op2 op3 : CmpOp} {r1 r2 r3 : R2} {a b c d : Expr} {ta tb tc td : TE} {pos : Pos} (h1 : OpR X (compareOp op1) r1) (h2 : OpR X (compareOp op2) r2) (h3 : OpR X (compareOp op3) r3) (ha : PE X a ta) (hb : PE X b tb) (hc : PE X c tc) (hd : PE X d td)
    (hm : lastMarks [op1, op2, op3] [b, c, d] = false := by with_unfolding_all rfl) : PT X (.Compare a [op1, op2, op3] [b, c, d] pos) (tChain3 r1 r2 r3 ta tb tc td) := by
  refine ⟨fun pins s σ H Q I h => ?_⟩
  refine isTrue_chain (thn (ha.run pins s σ H _ I h) fun v s1 ⟨x, H1, I1, q1r, q1⟩ => test_link (thn (hb.run pins s1 σ H1 _ I1 q1) fun u s2 ⟨y, H2, I2, q2r, q2⟩ =>
    thn (h1 pins s2 σ H2 x y v u _ I2 q1r q2r q2) fun e s3 ⟨z, H3, I3, q3r, k, ek, q3⟩ => ?_)) hm
  subst ek
  cases q3r
  refine wpAny_truthy_bool ?_
  cases k with
  | false => exact ite_ff ⟨H3, I3, q3⟩
  | true =>
    refine ite_tt (test_link (thn (hc.run pins s3 σ H3 _ I3 q3) fun w' s4 ⟨z4, H4, I4, q4r, q4⟩ => thn (h2 pins s4 σ H4 y z4 u w' _ I4 q2r q4r q4) fun d' s5 ⟨z5, H5, I5, q5r, k2, e2, q5⟩ => ?_))
    subst e2
    cases q5r
    refine wpAny_truthy_bool ?_
    cases k2 with
    | false => exact ite_ff ⟨H5, I5, q5⟩
    | true =>
      refine ite_tt (test_last (thn (hd.run pins s5 σ H5 _ I5 q5) fun w6 s6 ⟨z6, H6, I6, q6r, q6⟩ => thn (h3 pins s6 σ H6 z4 z6 w' w6 _ I6 q4r q6r q6) fun d7 s7 ⟨z7, H7, I7, q7r, k3, e3, q7⟩ => ?_))
      subst e3
      cases q7r
      exact wpAny_truthy_bool ⟨H7, I7, q7⟩
theorem ex_iff (h : Str) (r : List PyData) : exD (.tuple (.str h :: r)) = (Exq.nodeOk nmD h r && (kidsAt h).all fun i => exD ((PyData.str h :: r).getD i .none)) := by
  show Exq.exOk nmD _ = _
  rw [Exq.exOk_node]
  cases ok : Exq.nodeOk nmD h r with
  | false => rfl
  | true =>
    rw [(kids_map ok).1, List.all_map]
    rfl
theorem ex_number (r : List PyData) : exD (.tuple (.str "number" :: r)) = (decide (r.length = 1) && Exq.btw 0 7 (r.getD 0 .none)) := by
  rw [ex_iff, other_node (by decide +kernel) (by decide +kernel) (by decide +kernel), show kidsAt "number" = [] by decide +kernel, if_pos rfl, show lenAt "number" = 2 by decide +kernel, show decide (("number" : Str) ∈ lenKeys) = true by decide +kernel]
  rw [Bool.eq_iff_iff]
  simp only [Bool.and_eq_true, decide_eq_true_eq, List.all_nil, true_and, and_true]
  constructor
  · exact fun ⟨a, b⟩ => ⟨by omega, b⟩
  · exact fun ⟨a, b⟩ => ⟨by omega, b⟩
theorem ex_name (r : List PyData) : exD (.tuple (.str "name" :: r)) = ((decide (r.length = 1) || decide (r.length = 2)) && (nmD (r.getD 0 .none) && (decide (r.length = 1) || Exq.btw 0 3 (r.getD 1 .none)))) := by
  rw [ex_iff, name_node, show kidsAt "name" = [] by decide +kernel, List.all_nil, Bool.and_true]
theorem ex_call (r : List PyData) : exD (.tuple (.str "call" :: r)) = (decide (r.length = 1) && nmD (r.getD 0 .none)) := by
  rw [ex_iff, other_node (by decide +kernel) (by decide +kernel) (by decide +kernel), show kidsAt "call" = [] by decide +kernel, if_neg (by decide +kernel), show lenAt "call" = 2 by decide +kernel, show decide (("call" : Str) ∈ lenKeys) = true by decide +kernel, show decide (("call" : Str) ∈ [("set" : Str), "call"]) = true by decide +kernel]
  rw [Bool.eq_iff_iff]
  simp only [Bool.and_eq_true, decide_eq_true_eq, List.all_nil, true_and, and_true, Bool.not_true, Bool.false_or]
  constructor
  · exact fun ⟨a, b⟩ => ⟨by omega, b⟩
  · exact fun ⟨a, b⟩ => ⟨by omega, b⟩
theorem ex_set (r : List PyData) : exD (.tuple (.str "set" :: r)) = (decide (r.length = 2) && (nmD (r.getD 0 .none) && exD (r.getD 1 .none))) := by
  rw [ex_iff, other_node (by decide +kernel) (by decide +kernel) (by decide +kernel), show kidsAt "set" = [2] by decide +kernel, if_neg (by decide +kernel), show lenAt "set" = 3 by decide +kernel, show decide (("set" : Str) ∈ lenKeys) = true by decide +kernel, show decide (("set" : Str) ∈ [("set" : Str), "call"]) = true by decide +kernel]
  rw [Bool.eq_iff_iff]
  simp only [Bool.and_eq_true, decide_eq_true_eq, List.all_cons, List.all_nil, true_and, and_true, Bool.not_true, Bool.false_or, List.getD_cons_succ]
  constructor
  · exact fun ⟨⟨a, b⟩, c⟩ => ⟨by omega, b, c⟩
  · exact fun ⟨a, b, c⟩ => ⟨⟨by omega, b⟩, c⟩
theorem ex_op {h : Str} (m : h ∈ Exq.opsN) (r : List PyData) : exD (.tuple (.str h :: r)) = ((decide (r.length = 2) || (decide (r.length = 3) && Exq.oneOf ["left", "right"] (r.getD 2 .none))) && (exD (r.getD 0 .none) && exD (r.getD 1 .none))) := by
  rw [ex_iff, op_node m, at_op m]
  simp only [List.all_cons, List.all_nil, Bool.and_true, List.getD_cons_succ]
/-- a node of its length, all of it expressions -/
theorem ex_plain {h : Str} (m : h ∈ ([("show" : Str), "ask", "if", "then", "while"] : List Str)) (r : List PyData) : exD (.tuple (.str h :: r)) = (decide ((r.length : Int) + 1 = lenAt h) && r.all exD) := by
  have go : ∀ (h : Str) (n : Nat), h ∉ Exq.opsN → h ≠ "each" → h ≠ "name" → h ≠ "number" → decide (h ∈ lenKeys) = true → decide (h ∈ [("set" : Str), "call"]) = false → lenAt h = (n : Int) + 1 → kidsAt h = (List.range n).map (· + 1) → exD (.tuple (.str h :: r)) = (decide ((r.length : Int) + 1 = lenAt h) && r.all exD) := by
    intro h n h1 h2 h3 h4 h5 h6 h7 h8
    rw [ex_iff, other_node h1 h2 h3, if_neg h4, h5, h6, h8, h7]
    simp only [Bool.true_and, Bool.not_false, Bool.true_or, Bool.and_true]
    by_cases e : r.length = n
    · have : decide ((r.length : Int) + 1 = (n : Int) + 1) = true := decide_eq_true (by omega)
      rw [this, Bool.true_and, Bool.true_and, ← e, Bool.eq_iff_iff, List.all_eq_true, List.all_eq_true]
      constructor
      · intro a x hx
        obtain ⟨i, hi⟩ := List.getElem?_of_mem hx
        have li := (List.getElem?_eq_some_iff.mp hi).1
        have := a (i + 1) (List.mem_map.mpr ⟨i, List.mem_range.mpr li, rfl⟩)
        rw [List.getD_cons_succ, List.getD_eq_getElem?_getD, hi] at this
        exact this
      · intro a i hi
        obtain ⟨j, hj, rfl⟩ := List.mem_map.mp hi
        have lj := List.mem_range.mp hj
        rw [List.getD_cons_succ, List.getD_eq_getElem?_getD, List.getElem?_eq_getElem lj]
        exact a _ (List.getElem_mem _)
    · have : decide ((r.length : Int) + 1 = (n : Int) + 1) = false := decide_eq_false (by omega)
      rw [this, Bool.false_and, Bool.false_and]
  simp only [List.mem_cons, List.not_mem_nil, or_false] at m
  rcases m with rfl | rfl | rfl | rfl | rfl
  · exact go _ 1 (by decide +kernel) (by decide +kernel) (by decide +kernel) (by decide +kernel) (by decide +kernel) (by decide +kernel) (by decide +kernel) (by decide +kernel)
  · exact go _ 0 (by decide +kernel) (by decide +kernel) (by decide +kernel) (by decide +kernel) (by decide +kernel) (by decide +kernel) (by decide +kernel) (by decide +kernel)
  · exact go _ 3 (by decide +kernel) (by decide +kernel) (by decide +kernel) (by decide +kernel) (by decide +kernel) (by decide +kernel) (by decide +kernel) (by decide +kernel)
  · exact go _ 2 (by decide +kernel) (by decide +kernel) (by decide +kernel) (by decide +kernel) (by decide +kernel) (by decide +kernel) (by decide +kernel) (by decide +kernel)
  · exact go _ 2 (by decide +kernel) (by decide +kernel) (by decide +kernel) (by decide +kernel) (by decide +kernel) (by decide +kernel) (by decide +kernel) (by decide +kernel)
def lowHigh : PyData → PyData → Bool
  | .int a, .int b => decide (0 ≤ a) && (decide (a ≤ b) && decide (b ≤ 7))
  | _, _ => false
theorem ex_each (r : List PyData) : exD (.tuple (.str "each" :: r)) = ((decide (r.length = 4) || decide (r.length = 5)) && (nmD (r.getD 0 .none) && (lowHigh (r.getD 1 .none) (r.getD 2 .none) && (exD (r.getD 3 .none) && (decide (r.length = 4) || Exq.oneOf ["up", "down"] (r.getD 4 .none)))))) := by
  rw [ex_iff, each_node, show kidsAt "each" = [4] by decide +kernel]
  have lh : ∀ a b : PyData, (Exq.btw 0 7 a && (match a with | .int i => Exq.btw i 7 b | _ => false)) = lowHigh a b := by
    intro a b
    cases a with
    | int i =>
      cases b with
      | int j =>
        show ((decide (0 ≤ i) && decide (i ≤ 7)) && (decide (i ≤ j) && decide (j ≤ 7))) = (decide (0 ≤ i) && (decide (i ≤ j) && decide (j ≤ 7)))
        rw [Bool.eq_iff_iff]
        simp only [Bool.and_eq_true, decide_eq_true_eq]
        omega
      | _ => exact Bool.and_false _
    | _ => rfl
  simp only [List.all_cons, List.all_nil, Bool.and_true, List.getD_cons_succ]
  match r with
  | [] => rfl
  | [_] => simp [Exq.eachOk]
  | [_, _] => simp [Exq.eachOk]
  | [_, _, _] => simp [Exq.eachOk]
  | [x, a, b, e] =>
    show ((nmD x && (Exq.btw 0 7 a && (match a with | .int i => Exq.btw i 7 b | _ => false))) && exD e) = _
    rw [lh]
    simp [Bool.and_assoc]
  | [x, a, b, e, p] =>
    show ((nmD x && (Exq.oneOf ["up", "down"] p && (Exq.btw 0 7 a && (match a with | .int i => Exq.btw i 7 b | _ => false)))) && exD e) = _
    rw [lh]
    simp only [List.length_cons, List.length_nil, List.getD_cons_succ, List.getD_cons_zero]
    cases nmD x <;> cases Exq.oneOf ["up", "down"] p <;> cases lowHigh a b <;> cases exD e <;> simp
  | _ :: _ :: _ :: _ :: _ :: _ :: _ => simp [Exq.eachOk]
theorem ex_none {h : Str} (n1 : h ∉ Exq.opsN) (n2 : h ≠ "each") (n3 : h ≠ "name") (n4 : h ∉ lenKeys) (r : List PyData) : exD (.tuple (.str h :: r)) = false := by
  rw [ex_iff, other_node n1 n2 n3, decide_eq_false n4, Bool.false_and, Bool.false_and]
theorem cut_from (xs : List V) (k : Nat) : cutV xs (some (k : Int)) none = xs.drop k := by
  unfold cutV
  rw [HT.sIx_nat, HT.sIx_none]
  by_cases h : k ≤ xs.length
  · rw [Nat.min_eq_left h, List.take_of_length_le (by rw [List.length_drop]; exact Nat.le_refl _)]
  · rw [Nat.min_eq_right (by omega), List.drop_length, List.drop_of_length_le (by omega), List.take_nil]
theorem cut_to (xs : List V) (k : Nat) : cutV xs none (some (k : Int)) = xs.take k := by
  unfold cutV
  rw [HT.sIx_nat, HT.sIx_none, List.drop_zero, Nat.sub_zero]
  by_cases h : k ≤ xs.length
  · rw [Nat.min_eq_left h]
  · rw [Nat.min_eq_right (by omega), List.take_length, List.take_of_length_le (by omega)]
theorem cut_whole {xs : List V} {lo hi : Option Int} (h : HT.sIx xs.length 0 lo = 0 ∧ HT.sIx xs.length xs.length hi = xs.length) : cutV xs lo hi = xs := by
  unfold cutV
  rw [h.1, h.2, List.drop_zero, Nat.sub_zero, List.take_length]
/-- a slice of a tuple, whatever it is -/
theorem slA_any {K : PySem.W.Frag} {H : Hp} {a : Addr} {xs : List V} {lo hi : Option Int} {Q : VK} (h : SqT K H a xs) (q : ∀ p H', Same H H' → SqT K H' p (cutV xs lo hi) → Q (.ref p) H') : rSlA K (.ref a) lo hi H Q :=
  ⟨a, xs, rfl, h, fun w => q a H rsame (by rw [cut_whole w]; exact h), fun _ p hp => q p _ (snew hp) (SqT.of upd_same)⟩
theorem slA_from {K : PySem.W.Frag} {H : Hp} {a : Addr} {xs : List V} {k : Nat} {Q : VK} (h : SqT K H a xs) (q : ∀ p H', Same H H' → SqT K H' p (xs.drop k) → Q (.ref p) H') : rSlA K (.ref a) (some (k : Int)) none H Q :=
  slA_any h fun p H' s e => q p H' s (by rw [← cut_from]; exact e)
theorem slA_to {K : PySem.W.Frag} {H : Hp} {a : Addr} {xs : List V} {k : Nat} {Q : VK} (h : SqT K H a xs) (q : ∀ p H', Same H H' → SqT K H' p (xs.take k) → Q (.ref p) H') : rSlA K (.ref a) none (some (k : Int)) H Q :=
  slA_any h fun p H' s e => q p H' s (by rw [← cut_to]; exact e)
theorem DxAll.drop {K : PySem.W.Frag} {H : Hp} : ∀ {vs : List V} {ds : List PyData} (n : Nat), DxAll K H vs ds → DxAll K H (vs.drop n) (ds.drop n)
  | _, _, 0, h => h
  | _, _, _ + 1, .nil => .nil
  | _, _, n + 1, .cons _ r => DxAll.drop n r
theorem DxAll.take {K : PySem.W.Frag} {H : Hp} : ∀ {vs : List V} {ds : List PyData} (n : Nat), DxAll K H vs ds → DxAll K H (vs.take n) (ds.take n)
  | _, _, 0, h => .nil
  | _, _, _ + 1, .nil => .nil
  | _, _, n + 1, .cons a r => .cons a (DxAll.take n r)
def spLEx (K : PySem.W.Frag) (n : Nat) : Sp := fun vs H Q _ => ∃ v d, vs = [v] ∧ Dx K H v d ∧ asc d = true ∧ wt d ≤ 100000 ∧ d.depth < n ∧ ∀ H', Same H H' → Q (.bl (exD d)) H'
def lensK : List (Key × V) := [(.inr "set", .int 3), (.inr "show", .int 2), (.inr "ask", .int 1), (.inr "if", .int 4), (.inr "then", .int 3), (.inr "while", .int 3)]
theorem lens_merge : mergeK [] lensK = lensK := by decide +kernel
theorem lens_in {h : Str} (m : h ∈ ([("set" : Str), "show", "ask", "if", "then", "while"] : List Str)) : valV lensK (.inr h) = some (.int (lenAt h)) := by
  simp only [List.mem_cons, List.not_mem_nil, or_false] at m
  rcases m with rfl | rfl | rfl | rfl | rfl | rfl <;> decide +kernel
theorem lens_out {h : Str} (m : h ∉ ([("set" : Str), "show", "ask", "if", "then", "while"] : List Str)) : valV lensK (.inr h) = none := by
  simp only [List.mem_cons, List.not_mem_nil, or_false, not_or] at m
  obtain ⟨m1, m2, m3, m4, m5, m6⟩ := m
  unfold lensK
  rw [valMiss (kne (Ne.symm m1)), valMiss (kne (Ne.symm m2)), valMiss (kne (Ne.symm m3)), valMiss (kne (Ne.symm m4)), valMiss (kne (Ne.symm m5)), valMiss (kne (Ne.symm m6))]
  rfl
section
variable {P : Program} {w : World} {K : PySem.W.Frag} {mg : Str → Option Value} {base : Heap}
theorem scLawIsExpression : FnScope ["thing", "word", "many", "lengths", "inner"] ["thing"] (defScope sLawIsExpression) := ⟨rfl, rfl, rfl, by decide +kernel, rfl, by decide +kernel, by decide +kernel⟩
theorem hLawIsExpression (D : DS K mg) (T : TF mg) : ∀ n : Nat, Has P w K mg base CX0 "_law_is_expression" sLawIsExpression ["thing"] (n + 3) (spLEx K n) := by
  have hLawIsName : Has P w K mg base CX0 _ _ _ 2 _ := hLawIsName D T
  have hLawIsWhole : Has P w K mg base CX0 _ _ _ 1 _ := hLawIsWhole D T
  have hLawIsOne : Has P w K mg base CX0 _ _ _ 2 _ := hLawIsOne D T
  have hLawOps : Has P w K mg base CX0 _ _ _ 1 _ := hLawOps D
  intro n
  induction n with
  | zero =>
    exact Has.mk0 D.aLawIsExpression scLawIsExpression (fun _ _ _ _ _ _ us hl => match us, hl with | [_], _ => rfl) (fun vs H Q E ⟨_, _, _, _, _, _, h, _⟩ => absurd h (Nat.not_lt_zero _)) (fun cdv A outer s H vs Q E hr ⟨_, _, _, _, _, _, h, _⟩ => absurd h (Nat.not_lt_zero _))
  | succ n ih =>
  have hLawIsExpression : Has P w K mg base CX0 _ _ _ (n + 3) _ := ih
  refine Has.mk0 D.aLawIsExpression scLawIsExpression (fun _ _ _ _ _ _ us hl => match us, hl with | [_], _ => rfl) (fun vs H Q E h => ?_) (fun cdv A outer s H vs Q E hr h => ?_)
  · obtain ⟨v, d, rfl, _⟩ := h
    rfl
  · obtain ⟨v, d, rfl, hd, ha, hw, hdep, k⟩ := h
    refine ⟨_, (pss_cons (ps_if (PW.pt (pw_or (pt_not (pt_val (pe_callB call_isi (by rfl) T.isinstance (by decide +kernel) (pa_cons (pv 0) (pa_cons (pe_bltn (v := .ty "tuple") (by rfl) T.tuple (by decide +kernel) rfl) pa_nil))))) (pw_or (pt_cmpR (op_eqE (K := K) rfl hr.units) (pv 0) (pe_tup pa_nil) (nomark _)) (pw_or1 (pt_not (pt_val (pe_callB call_isi (by rfl) T.isinstance (by decide +kernel) (pa_cons (pe_ix ix_tup (pv 0) pe_int (fun _ _ => rfl)) (pa_cons (pe_bltn (v := .ty "str") (by rfl) T.str (by decide +kernel) rfl) pa_nil)))))))))
        (pss_one (ps_ret pe_bl))
        pss_nil)
      (pss_cons (ps_par (i := 1) (j := 2) rfl scLawIsExpression.nd rfl rfl (by decide) rfl rfl (pa_cons (pe_ix ix_tup (pv 0) pe_int (fun _ _ => rfl)) (pa_cons (pe_callB call_len_seq (by rfl) T.len PySem.boot_len (pa_cons (pv 0) pa_nil)) pa_nil)) (by rfl))
      (pss_cons (ps_if (pt_cmpR op_eq (pv 1) pe_str (nomark _))
        (pss_one (ps_ret (pe_and (pe_cmpR op_eq (pv 2) pe_int (nomark _)) (pe_and (pe_fn hLawIsWhole (hr.mono (by omega)) (by rfl) (pa_cons (pe_ix ix_tup (pv 0) pe_int (fun _ _ => rfl)) pa_nil)) (pe_one (pe_chain op_le op_le pe_int (pe_ix ix_tup (pv 0) pe_int (fun _ _ => rfl)) pe_int))))))
        pss_nil)
      (pss_cons (ps_if (PW.pt (pw_and (pt_cmpR op_in_seq (pv 1) (pe_lst (pa_cons pe_str (pa_cons pe_str (pa_cons pe_str (pa_cons pe_str pa_nil))))) (by rfl)) (pw_and1 (PW.pt (pw_or (pt_cmpR op_lt (pv 2) pe_int (nomark _)) (pw_or1 (pt_not (pt_val (pe_fn hLawIsName (hr.mono (by omega)) (by rfl) (pa_cons (pe_ix ix_tup (pv 0) pe_int (fun _ _ => rfl)) pa_nil))))))))))
        (pss_one (ps_ret pe_bl))
        pss_nil)
      (pss_cons (ps_if (pt_cmpR op_eq (pv 1) pe_str (nomark _))
        (pss_one (ps_ret (pe_or (pe_cmpR op_eq (pv 2) pe_int (nomark _)) (pe_one (pe_and (pe_cmpR op_eq (pv 2) pe_int (nomark _)) (pe_and (pe_fn hLawIsWhole (hr.mono (by omega)) (by rfl) (pa_cons (pe_ix ix_tup (pv 0) pe_int (fun _ _ => rfl)) pa_nil)) (pe_one (pe_chain op_le op_le pe_int (pe_ix ix_tup (pv 0) pe_int (fun _ _ => rfl)) pe_int))))))))
        pss_nil)
      (pss_cons (ps_if (pt_cmpR op_eq (pv 1) pe_str (nomark _))
        (pss_one (ps_ret (pe_cmpR op_eq (pv 2) pe_int (nomark _))))
        pss_nil)
      (pss_cons (ps_if (pt_cmpR op_eq (pv 1) pe_str (nomark _))
        (pss_cons (ps_if (PW.pt (pw_or (pt_not (pt_chain op_le op_le pe_int (pv 2) pe_int)) (pw_or (pt_not (pt_val (pe_fn hLawIsWhole (hr.mono (by omega)) (by rfl) (pa_cons (pe_ix ix_tup (pv 0) pe_int (fun _ _ => rfl)) pa_nil)))) (pw_or (pt_not (pt_val (pe_fn hLawIsWhole (hr.mono (by omega)) (by rfl) (pa_cons (pe_ix ix_tup (pv 0) pe_int (fun _ _ => rfl)) pa_nil)))) (pw_or1 (pt_not (pt_chain3 op_le op_le op_le pe_int (pe_ix ix_tup (pv 0) pe_int (fun _ _ => rfl)) (pe_ix ix_tup (pv 0) pe_int (fun _ _ => rfl)) pe_int)))))))
          (pss_one (ps_ret pe_bl))
          pss_nil)
        (pss_one (ps_ret (pe_and (pe_fn hLawIsExpression (hr.mono (by omega)) (by rfl) (pa_cons (pe_ix ix_tup (pv 0) pe_int (fun _ _ => rfl)) pa_nil)) (pe_one (pe_or (pe_cmpR op_eq (pv 2) pe_int (nomark _)) (pe_one (pe_fn hLawIsOne (hr.mono (by omega)) (by rfl) (pa_cons (pe_lst (pa_cons pe_str (pa_cons pe_str pa_nil))) (pa_cons (pe_ix ix_tup (pv 0) pe_int (fun _ _ => rfl)) pa_nil))))))))))
        pss_nil)
      (pss_cons (ps_if (pt_cmpR op_in_seq (pv 1) (pe_fn0 hLawOps (hr.mono (by omega)) (by rfl)) (by rfl))
        (pss_cons (ps_if (PW.pt (pw_or (pt_not (pt_chain op_le op_le pe_int (pv 2) pe_int)) (pw_or1 (PW.pt (pw_and (pt_cmpR op_eq (pv 2) pe_int (nomark _)) (pw_and1 (pt_not (pt_val (pe_fn hLawIsOne (hr.mono (by omega)) (by rfl) (pa_cons (pe_lst (pa_cons pe_str (pa_cons pe_str pa_nil))) (pa_cons (pe_ix ix_tup (pv 0) pe_int (fun _ _ => rfl)) pa_nil)))))))))))
          (pss_one (ps_ret pe_bl))
          pss_nil)
        (pss_one (ps_ret (pe_and (pe_fn hLawIsExpression (hr.mono (by omega)) (by rfl) (pa_cons (pe_ix ix_tup (pv 0) pe_int (fun _ _ => rfl)) pa_nil)) (pe_one (pe_fn hLawIsExpression (hr.mono (by omega)) (by rfl) (pa_cons (pe_ix ix_tup (pv 0) pe_int (fun _ _ => rfl)) pa_nil)))))))
        pss_nil)
      (pss_cons (ps_set (i := 3) scLawIsExpression.nd rfl (Or.inl rfl) (pe_disp (pps_cons pe_str pe_int (pps_cons pe_str pe_int (pps_cons pe_str pe_int (pps_cons pe_str pe_int (pps_cons pe_str pe_int (pps_cons pe_str pe_int pps_nil)))))) (by rfl) (by rfl) (fun z => by cases z) (by decide)))
      (pss_cons (ps_if (PW.pt (pw_or (pt_cmp (pc_dnotin (hu_of hr) (pv 1) (pv 3))) (pw_or1 (pt_cmpR op_ne (pv 2) (pe_dget (hu_of hr) (pv 3) (pv 1) (fun _ _ => rfl)) (nomark _)))))
        (pss_one (ps_ret pe_bl))
        pss_nil)
      (pss_one (ps_ret (pe_cmpR (op_eqE (K := K) rfl hr.units) (pe_lc (own := [("inner", 4)]) (g := (gName 4)) rfl scLawIsExpression.nd (pi_tup (pe_slice sl_tupA (pv 0) (po_some (pe_ifExp (pt_cmpR op_eq (pv 1) pe_str (nomark _)) pe_int pe_int)) po_none)) (blkOk_by (own := [("inner", 4)]) (N := ["thing", "word", "many", "lengths", "inner"]) (sc := defScope sLawIsExpression) (by decide +kernel)) (fun _ _ _ _ _ => (pg_name (i := 4) scLawIsExpression.nd rfl (Or.inl rfl))) (fun _ _ _ _ _ => pts_one (pt_not (pt_val (pe_fn hLawIsExpression (hr.mono (by omega)) (by rfl) (pa_cons (pv 4) pa_nil))))) (fun _ _ _ _ _ => pe_int)) (pe_lst pa_nil) (nomark _)))))))))))))), ?_⟩
    refine ⟨_, rfl, _, _, _, _, _, rfl, .ty "tuple", hd.ty, kit_ty (kit_tuple d), _, rfl, ?_⟩
    cases d with
    | tuple ds =>
      refine iteF ?_
      obtain ⟨a, xs, rfl, t⟩ := hd.tupD
      refine ⟨_, rfl, by show 0 ≤ sizeLine; exact Nat.zero_le _, fun e0 he0 => ?_⟩
      have s1 : Same H (upd H e0 (.tup [])) := snew he0
      have t1 := t.same s1
      refine ⟨a, e0, xs, rfl, rfl, .inl ⟨t1.at_, SqT.of upd_same⟩, _, rfl, ?_⟩
      generalize upd H e0 (.tup []) = H1 at *
      cases ds with
      | nil =>
        have : xs = [] := List.length_eq_zero_iff.mp t.len
        subst this
        refine iteT ?_
        have := k H1 s1
        exact iteT this
      | cons d0 r =>
      obtain ⟨v0, zs, rfl, h0, hr0⟩ : ∃ v0 zs, xs = v0 :: zs ∧ Dx K H1 v0 d0 ∧ DxAll K H1 zs r := by
        cases t1.all with
        | cons a b => exact ⟨_, _, rfl, a, b⟩
      refine iteF ?_
      refine ⟨_, rfl, a, _, _, v0, rfl, rfl, t1.at_, atI_nat (j := 0) rfl, _, _, _, _, _, rfl, .ty "str", h0.ty, kit_ty (kit_str d0), _, rfl, ?_⟩
      cases d0 with
      | str h =>
        cases h0
        refine iteF ?_
        have key : ∀ H', Same H1 H' → Q (.bl (exD (.tuple (.str h :: r)))) H' := fun H' s => k H' (s1.trans s)
        have lz : zs.length = r.length := DxAll.len hr0
        have ar : asc (.tuple (.str h :: r)) = true := ha
        have wr : wtA r ≤ 100000 := by
          simp only [wt, wtA] at hw
          omega
        have dr : ∀ x ∈ r, x.depth < n := fun x hx => by
          have h1 := Exq.depth_mem (List.mem_cons_of_mem (PyData.str h) hx)
          rw [depth_tup] at hdep
          omega
        have at_ : ∀ (i : Nat) (H' : Hp), i < r.length → Same H1 H' → ∃ v d, r[i]? = some d ∧ r.getD i .none = d ∧ atI (V.str h :: zs) ((i + 1 : Nat) : Int) = some v ∧ Dx K H' v d ∧ asc d = true ∧ wt d ≤ 100000 ∧ d.depth < n := fun i H' hi s => by
          obtain ⟨v, e1, e2⟩ := (t1.same s).get (i + 1) (d := r[i]) (by simp [hi])
          have m := List.getElem_mem hi
          exact ⟨v, r[i], List.getElem?_eq_getElem hi, by rw [List.getD_eq_getElem?_getD, List.getElem?_eq_getElem hi]; rfl, e1, e2, asc_mem ar (List.mem_cons_of_mem _ m), Nat.le_trans (wtA_mem m) wr, dr _ m⟩
        clear hdep hw k hd t ha
        refine ⟨_, rfl, a, _, _, _, rfl, rfl, t1.at_, atI_nat (j := 0) rfl, _, rfl, a, _, rfl, .inr t1.at_, _, _, rfl, ?_⟩
        show tSeq _ _ _ ([some (.ref a), some (.str h), some (.int ((V.str h :: zs).length : Nat)), none, none] : L2.St) _
        have el : ((V.str h :: zs).length : Int) = (r.length : Int) + 1 := by rw [List.length_cons, lz]; rfl
        have lent : ∀ {m : Int}, decide (V.int ((V.str h :: zs).length : Nat) = V.int m) = true → (r.length : Int) + 1 = m := fun c => by rw [← el]; exact lenT c
        have lenf : ∀ {m : Int}, ¬ decide (V.int ((V.str h :: zs).length : Nat) = V.int m) = true → (r.length : Int) + 1 ≠ m := fun c => by rw [← el]; exact lenF c
        refine ⟨_, rfl, rfl, _, rfl, ite2 (fun c => ?_) (fun c => ?_)⟩
        · cases V.str.inj (of_decide_eq_true c)
          refine ⟨_, rfl, rfl, _, rfl, ite2 (fun c1 => ?_) (fun c1 => ?_)⟩
          · have e1 := lent c1
            obtain ⟨d, rfl⟩ := len1 (show r.length = 1 by omega)
            obtain ⟨v, _, e2, _, e3, hd, _⟩ := at_ 0 H1 (by simp) rsame
            cases e2
            refine ⟨_, rfl, a, _, _, v, rfl, rfl, t1.at_, e3, v, d, rfl, hd, _, rfl, ?_⟩
            have key2 : Q (.bl (Exq.btw 0 7 d)) H1 := by
              have := key H1 rsame
              rw [ex_number] at this
              exact this
            cases d with
            | int i =>
              cases hd
              refine iteT ⟨_, rfl, a, _, _, _, rfl, rfl, t1.at_, e3, _, _, rfl, rfl, _, rfl, ite2 (fun c2 => ⟨_, _, rfl, rfl, ?_⟩) (fun c2 => ?_)⟩
              · have : Exq.btw 0 7 (.int i) = decide (i ≤ 7) := by
                  show (decide (0 ≤ i) && decide (i ≤ 7)) = _
                  rw [c2, Bool.true_and]
                rw [this] at key2
                exact key2
              · have : Exq.btw 0 7 (.int i) = false := by
                  show (decide (0 ≤ i) && decide (i ≤ 7)) = _
                  rw [Bool.eq_false_iff.mpr c2, Bool.false_and]
                rw [this] at key2
                exact key2
            | _ => exact iteF key2
          · have e1 := lenf c1
            have := key H1 rsame
            rw [ex_number, decide_eq_false (show ¬ r.length = 1 by omega), Bool.false_and] at this
            exact this
        have n1 : h ≠ "number" := fun e => c (decide_eq_true (by rw [e]))
        clear c
        refine ⟨_, rfl, by show 4 ≤ sizeLine; decide, fun l1 hl1 => ?_⟩
        have sl : Same H1 (upd H1 l1 (.lst [V.str "name", V.str "set", V.str "each", V.str "call"])) := snew hl1
        refine ⟨l1, _, rfl, .inl (SqL.of upd_same), rfl, flat_strs ["name", "set", "each", "call"], ?_⟩
        generalize upd H1 l1 (.lst [V.str "name", V.str "set", V.str "each", V.str "call"]) = H2 at *
        refine ⟨_, rfl, ?_⟩
        have l4 : inV (V.str h) [V.str "name", V.str "set", V.str "each", V.str "call"] = decide (h ∈ [("name" : Str), "set", "each", "call"]) := inV_strs h ["name", "set", "each", "call"]
        rw [if_neg Bool.false_ne_true, l4]
        let C : Prop := h ∈ [("name" : Str), "set", "each", "call"] → 1 ≤ r.length ∧ nmD (r.getD 0 .none) = true
        refine (fun (rest : ∀ H3, Same H1 H3 → C → (?G : Hp → Prop) H3) => ?first) ?second
        case first =>
          refine ite2 (fun c => ?_) (fun c => ?_)
          · have m := of_decide_eq_true c
            refine ⟨_, rfl, _, _, rfl, rfl, _, rfl, ite2 (fun c1 => ?_) (fun c1 => ?_)⟩
            · have e1 := of_decide_eq_true c1
              rw [el] at e1
              have e0 : r = [] := List.length_eq_zero_iff.mp (by omega)
              subst e0
              have := key H2 sl
              have bad : exD (.tuple [.str h]) = false := by
                simp only [List.mem_cons, List.not_mem_nil, or_false] at m
                rcases m with rfl | rfl | rfl | rfl
                · rw [ex_name]; rfl
                · rw [ex_set]; rfl
                · rw [ex_each]; rfl
                · rw [ex_call]; rfl
              rw [bad] at this
              exact this
            · have e1 : ¬ (((V.str h :: zs).length : Nat) : Int) < 2 := by simpa using c1
              rw [el] at e1
              obtain ⟨v, d, e2, e3, e4, hd, hasc, hwt, _⟩ := at_ 0 H2 (by omega) sl
              refine ⟨_, rfl, a, _, _, v, rfl, rfl, Dx.sameT sl t1.at_, e4, v, d, rfl, hd, fun x ex => by rw [ex] at hwt; exact str_le hwt, hasc, fun H3 s3 => ⟨_, rfl, ?_⟩⟩
              rw [← e3]
              cases c2 : nmD (r.getD 0 .none) with
              | true =>
                refine iteF ?_
                exact rest H3 (sl.trans s3) fun _ => ⟨by omega, c2⟩
              | false =>
                refine iteT ?_
                have := key H3 (sl.trans s3)
                have bad : exD (.tuple (.str h :: r)) = false := by
                  simp only [List.mem_cons, List.not_mem_nil, or_false] at m
                  rcases m with rfl | rfl | rfl | rfl
                  · rw [ex_name, c2, Bool.false_and, Bool.and_false]
                  · rw [ex_set, c2, Bool.false_and, Bool.and_false]
                  · rw [ex_each, c2, Bool.false_and, Bool.and_false]
                  · rw [ex_call, c2, Bool.and_false]
                rw [bad] at this
                exact this
          · exact rest H2 sl fun m => absurd (decide_eq_true m) c
        case second =>
        clear sl hl1 l4 he0
        clear H2
        intro H2 sl hC
        have nx := at_
        have t0 := t1
        replace at_ := fun (i : Nat) (hi : i < r.length) => nx i H2 hi sl
        replace t1 := t1.same sl
        refine ⟨_, rfl, rfl, _, rfl, ite2 (fun c => ?_) (fun c => ?_)⟩
        -- name
        · cases V.str.inj (of_decide_eq_true c)
          obtain ⟨l1, nm⟩ := hC (by simp)
          refine ⟨_, rfl, rfl, _, rfl, ite2 (fun c1 => ?_) (fun c1 => ?_)⟩
          · have e1 := lent c1
            have := key H2 sl
            have e2 : r.length = 1 := by omega
            rw [ex_name, nm, decide_eq_true e2] at this
            exact this
          · have e1 := lenf c1
            have n1 : decide (r.length = 1) = false := decide_eq_false (by omega)
            have key2 : ∀ H', Same H1 H' → Q (.bl (decide (r.length = 2) && Exq.btw 0 3 (r.getD 1 .none))) H' := fun H' s => by
              have := key H' s
              rw [ex_name, nm, n1, Bool.false_or, Bool.true_and, Bool.false_or] at this
              exact this
            refine ⟨_, rfl, rfl, _, rfl, ite2 (fun c2 => ?_) (fun c2 => ?_)⟩
            · have e2 := lent c2
              have e2' : r.length = 2 := by omega
              obtain ⟨v, d, e3, e4, e5, hd, _⟩ := at_ 1 (by omega)
              refine ⟨_, rfl, a, _, _, v, rfl, rfl, t1.at_, e5, v, d, rfl, hd, _, rfl, ?_⟩
              have key3 : Q (.bl (Exq.btw 0 3 d)) H2 := by
                have := key2 H2 sl
                rw [decide_eq_true e2', Bool.true_and, e4] at this
                exact this
              cases d with
              | int i =>
                cases hd
                refine iteT ⟨_, rfl, a, _, _, _, rfl, rfl, t1.at_, e5, _, _, rfl, rfl, _, rfl, ite2 (fun c2 => ⟨_, _, rfl, rfl, ?_⟩) (fun c2 => ?_)⟩
                · have : Exq.btw 0 3 (.int i) = decide (i ≤ 3) := by
                    show (decide (0 ≤ i) && decide (i ≤ 3)) = _
                    rw [c2, Bool.true_and]
                  rw [this] at key3
                  exact key3
                · have : Exq.btw 0 3 (.int i) = false := by
                    show (decide (0 ≤ i) && decide (i ≤ 3)) = _
                    rw [Bool.eq_false_iff.mpr c2, Bool.false_and]
                  rw [this] at key3
                  exact key3
              | _ => exact iteF key3
            · have e2 := lenf c2
              have := key2 H2 sl
              rw [decide_eq_false (show ¬ r.length = 2 by omega), Bool.false_and] at this
              exact this
        have n2 : h ≠ "name" := fun e => c (decide_eq_true (by rw [e]))
        clear c
        refine ⟨_, rfl, rfl, _, rfl, ite2 (fun c => ?_) (fun c => ?_)⟩
        -- call
        · cases V.str.inj (of_decide_eq_true c)
          obtain ⟨l1, nm⟩ := hC (by simp)
          refine ⟨_, rfl, rfl, ?_⟩
          have := key H2 sl
          rw [ex_call, nm, Bool.and_true] at this
          have e : decide (V.int ((V.str "call" :: zs).length : Nat) = V.int 2) = decide (r.length = 1) := by
            rw [Bool.eq_iff_iff]
            constructor
            · exact fun z => decide_eq_true (by have := lent z; omega)
            · intro z
              by_cases q : decide (V.int ((V.str "call" :: zs).length : Nat) = V.int 2) = true
              · exact q
              · have := lenf q
                have := of_decide_eq_true z
                omega
          rw [e]
          exact this
        have n3 : h ≠ "call" := fun e => c (decide_eq_true (by rw [e]))
        clear c
        refine ⟨_, rfl, rfl, _, rfl, ite2 (fun c => ?_) (fun c => ?_)⟩
        -- each
        · cases V.str.inj (of_decide_eq_true c)
          obtain ⟨l1, nm⟩ := hC (by simp)
          have key2 : ∀ H', Same H1 H' → Q (.bl ((decide (r.length = 4) || decide (r.length = 5)) && (lowHigh (r.getD 1 .none) (r.getD 2 .none) && (exD (r.getD 3 .none) && (decide (r.length = 4) || Exq.oneOf ["up", "down"] (r.getD 4 .none)))))) H' := fun H' s => by
            have := key H' s
            rw [ex_each, nm, Bool.true_and] at this
            exact this
          have stop : ∀ H', Same H1 H' → ¬ (r.length = 4 ∨ r.length = 5) → Q (.bl false) H' := fun H' s z => by
            have := key2 H' s
            rw [decide_eq_false (fun q => z (.inl q)), decide_eq_false (fun q => z (.inr q)), Bool.or_self, Bool.false_and] at this
            exact this
          refine ⟨_, rfl, _, _, rfl, rfl, _, rfl, ite2 (fun c1 => ?_) (fun c1 => ?_)⟩
          · have c1' := of_decide_eq_true c1
            rw [el] at c1'
            refine ⟨_, _, rfl, rfl, _, rfl, ite2 (fun c2 => ?_) (fun c2 => ?_)⟩
            · have c2' : ¬ (((V.str "each" :: zs).length : Nat) : Int) ≤ 6 := by simpa using c2
              rw [el] at c2'
              exact stop H2 sl (by omega)
            · have c2' : (((V.str "each" :: zs).length : Nat) : Int) ≤ 6 := by simpa using c2
              rw [el] at c2'
              have l45 : r.length = 4 ∨ r.length = 5 := by omega
              have l45' : (decide (r.length = 4) || decide (r.length = 5)) = true := by simpa using l45
              have key3 : ∀ H', Same H1 H' → Q (.bl (lowHigh (r.getD 1 .none) (r.getD 2 .none) && (exD (r.getD 3 .none) && (decide (r.length = 4) || Exq.oneOf ["up", "down"] (r.getD 4 .none))))) H' := fun H' s => by
                have := key2 H' s
                rw [l45', Bool.true_and] at this
                exact this
              obtain ⟨va, da, _, g1, i1, ha, _⟩ := at_ 1 (by omega)
              obtain ⟨vb, db, _, g2, i2, hb, _⟩ := at_ 2 (by omega)
              obtain ⟨ve, de, _, g3, i3, he, asce, wte, dpe⟩ := at_ 3 (by omega)
              rw [g1, g2, g3] at key3
              clear key2 stop
              refine ⟨_, rfl, a, _, _, va, rfl, rfl, t1.at_, i1, va, da, rfl, ha, _, rfl, ?_⟩
              cases da with
              | int x =>
                cases ha
                refine iteF ⟨_, rfl, a, _, _, vb, rfl, rfl, t1.at_, i2, vb, db, rfl, hb, _, rfl, ?_⟩
                cases db with
                | int y =>
                  cases hb
                  refine iteF ?_
                  have out : lowHigh (.int x) (.int y) = false → Q (.bl false) H2 := fun e => by
                    have := key3 H2 sl
                    rw [e, Bool.false_and] at this
                    exact this
                  refine ⟨_, rfl, a, _, _, _, rfl, rfl, t1.at_, i1, _, _, rfl, rfl, _, rfl, ite2 (fun c3 => ?_) (fun c3 => ?_)⟩
                  · refine ⟨_, rfl, a, _, _, _, rfl, rfl, t1.at_, i2, _, _, rfl, rfl, _, rfl, ite2 (fun c4 => ?_) (fun c4 => ?_)⟩
                    · refine ⟨_, _, rfl, rfl, _, rfl, ite2 (fun c5 => ?_) (fun c5 => ?_)⟩
                      · have c5' : ¬ y ≤ 7 := by simpa using c5
                        exact out (by show (decide (0 ≤ x) && (decide (x ≤ y) && decide (y ≤ 7))) = false; rw [decide_eq_false c5', Bool.and_false, Bool.and_false])
                      · have c5' : y ≤ 7 := by simpa using c5
                        have yes : lowHigh (.int x) (.int y) = true := by
                          show (decide (0 ≤ x) && (decide (x ≤ y) && decide (y ≤ 7))) = true
                          rw [c3, c4, decide_eq_true c5']
                          rfl
                        rw [yes] at key3
                        simp only [Bool.true_and] at key3
                        clear out c3 c4 c5 c5' yes
                        refine ⟨_, rfl, a, _, _, ve, rfl, rfl, t1.at_, i3, ve, de, rfl, he, asce, wte, dpe, fun H4 s4 => ⟨_, rfl, ?_⟩⟩
                        have sl4 := sl.trans s4
                        cases ce : exD de with
                        | false =>
                          have := key3 H4 sl4
                          rw [ce, Bool.false_and] at this
                          exact iteF this
                        | true =>
                          rw [ce] at key3
                          simp only [Bool.true_and] at key3
                          refine iteT ⟨_, rfl, rfl, _, rfl, ite2 (fun c6 => ?_) (fun c6 => ?_)⟩
                          · have e6 := lent c6
                            have := key3 H4 sl4
                            rw [decide_eq_true (show r.length = 4 by omega), Bool.true_or] at this
                            exact this
                          · have e6 := lenf c6
                            obtain ⟨v5, d5, _, g5, i5, h5, _⟩ := nx 4 H4 (by omega) sl4
                            refine ⟨by show 2 ≤ sizeLine; decide, fun l5 hl5 => ?_⟩
                            have s5 : Same H4 (upd H4 l5 (.lst [V.str "up", V.str "down"])) := snew hl5
                            refine ⟨_, rfl, a, _, _, v5, rfl, rfl, Dx.sameT (s4.trans s5) t1.at_, i5, v5, d5, l5, ["up", "down"], rfl, dxSame s5 _ _ h5, SqL.of upd_same, ?_⟩
                            have := key3 _ (sl4.trans s5)
                            rw [decide_eq_false (show ¬ r.length = 4 by omega), Bool.false_or, g5] at this
                            exact this
                    · exact out (by show (decide (0 ≤ x) && (decide (x ≤ y) && decide (y ≤ 7))) = false; rw [Bool.eq_false_iff.mpr c4, Bool.false_and, Bool.and_false])
                  · exact out (by show (decide (0 ≤ x) && (decide (x ≤ y) && decide (y ≤ 7))) = false; rw [Bool.eq_false_iff.mpr c3, Bool.false_and])
                | _ => exact iteT (key3 H2 sl)
              | _ =>
                exact iteT (key3 H2 sl)
          · have c1' : ¬ (5 : Int) ≤ (((V.str "each" :: zs).length : Nat) : Int) := by simpa using c1
            rw [el] at c1'
            exact ⟨_, rfl, stop H2 sl (by omega)⟩
        have n4 : h ≠ "each" := fun e => c (decide_eq_true (by rw [e]))
        clear c
        refine ⟨_, rfl, rfl, fun l1 H3 hl1 s3 h3 => ⟨l1, _, rfl, .inl (SqL.of h3), rfl, flat_strs Exq.opsN, ?_⟩⟩
        have e4 : inV (V.str h) (Exq.opsN.map V.str) = decide (h ∈ Exq.opsN) := inV_strs h Exq.opsN
        refine ⟨_, rfl, ?_⟩
        rw [if_neg Bool.false_ne_true, e4]
        have sl3 := sl.trans s3
        replace t1 := t1.same s3
        replace at_ := fun (i : Nat) (hi : i < r.length) => nx i H3 hi sl3
        refine ite2 (fun c => ?_) (fun c => ?_)
        -- operations
        · have m := of_decide_eq_true c
          have key2 : ∀ H', Same H1 H' → Q (.bl ((decide (r.length = 2) || (decide (r.length = 3) && Exq.oneOf ["left", "right"] (r.getD 2 .none))) && (exD (r.getD 0 .none) && exD (r.getD 1 .none)))) H' := fun H' s => by
            have := key H' s
            rw [ex_op m] at this
            exact this
          have stop : ∀ H', Same H1 H' → ¬ (r.length = 2 ∨ r.length = 3) → Q (.bl false) H' := fun H' s z => by
            have := key2 H' s
            rw [decide_eq_false (fun q => z (.inl q)), decide_eq_false (fun q => z (.inr q)), Bool.false_and, Bool.or_self, Bool.false_and] at this
            exact this
          refine ⟨_, rfl, _, _, rfl, rfl, _, rfl, ite2 (fun c1 => ?_) (fun c1 => ?_)⟩
          · have c1' := of_decide_eq_true c1
            rw [el] at c1'
            refine ⟨_, _, rfl, rfl, _, rfl, ite2 (fun c2 => ?_) (fun c2 => ?_)⟩
            · have c2' : ¬ (((V.str h :: zs).length : Nat) : Int) ≤ 4 := by simpa using c2
              rw [el] at c2'
              exact stop H3 sl3 (by omega)
            · have c2' : (((V.str h :: zs).length : Nat) : Int) ≤ 4 := by simpa using c2
              rw [el] at c2'
              refine (fun (rest : ∀ H4, Same H1 H4 → (decide (r.length = 2) || (decide (r.length = 3) && Exq.oneOf ["left", "right"] (r.getD 2 .none))) = true → (?G2 : Hp → Prop) H4) => ?first2) ?second2
              case first2 =>
                refine ⟨_, rfl, rfl, _, rfl, ite2 (fun c6 => ?_) (fun c6 => ?_)⟩
                rotate_left
                · have e6 := lenf c6
                  exact rest H3 sl3 (by rw [decide_eq_true (show r.length = 2 by omega), Bool.true_or])
                · have e6 := lent c6
                  obtain ⟨v5, d5, _, g5, i5, h5, _⟩ := at_ 2 (by omega)
                  refine ⟨by show 2 ≤ sizeLine; decide, fun l5 hl5 => ?_⟩
                  have s5 : Same H3 (upd H3 l5 (.lst [V.str "left", V.str "right"])) := snew hl5
                  refine ⟨_, rfl, a, _, _, v5, rfl, rfl, Dx.sameT s5 t1.at_, i5, v5, d5, l5, ["left", "right"], rfl, dxSame s5 _ _ h5, SqL.of upd_same, _, rfl, ?_⟩
                  replace s5 := sl3.trans s5
                  generalize upd H3 l5 (.lst [V.str "left", V.str "right"]) = H5 at *
                  cases c7 : Exq.oneOf ["left", "right"] d5 with
                  | true => exact iteF (rest H5 s5 (by rw [g5, c7, decide_eq_true (show r.length = 3 by omega), Bool.true_and, Bool.or_true]))
                  | false =>
                    have := key2 H5 s5
                    rw [g5, c7, decide_eq_false (show ¬ r.length = 2 by omega), Bool.and_false, Bool.or_self, Bool.false_and] at this
                    exact iteT this
              case second2 =>
              intro H4 s4 hh
              obtain ⟨v1, d1, _, g1, i1, h1, asc1, wt1, dp1⟩ := nx 0 H4 (by omega) s4
              have key3 : ∀ H', Same H1 H' → Q (.bl (exD d1 && exD (r.getD 1 .none))) H' := fun H' s => by
                have := key2 H' s
                rw [hh, Bool.true_and, g1] at this
                exact this
              have t4 := t0.same s4
              refine ⟨_, rfl, a, _, _, v1, rfl, rfl, t4.at_, i1, v1, d1, rfl, h1, asc1, wt1, dp1, fun H5 s5 => ⟨_, rfl, ?_⟩⟩
              cases ce : exD d1 with
              | false =>
                have := key3 H5 (s4.trans s5)
                rw [ce, Bool.false_and] at this
                exact iteF this
              | true =>
                obtain ⟨v2, d2, _, g2, i2, h2, asc2, wt2, dp2⟩ := nx 1 H5 (by omega) (s4.trans s5)
                refine iteT ⟨_, rfl, a, _, _, v2, rfl, rfl, Dx.sameT s5 t4.at_, i2, v2, d2, rfl, h2, asc2, wt2, dp2, fun H6 s6 => ?_⟩
                have := key3 H6 ((s4.trans s5).trans s6)
                rw [ce, Bool.true_and, g2] at this
                exact this
          · have c1' : ¬ (3 : Int) ≤ (((V.str h :: zs).length : Nat) : Int) := by simpa using c1
            rw [el] at c1'
            exact ⟨_, rfl, stop H3 sl3 (by omega)⟩
        have n5 : h ∉ Exq.opsN := fun e => c (decide_eq_true e)
        clear c e4
        refine fun l hl => ⟨upd_same, lensK, rfl, by decide, ?_⟩
        rw [upd_upd, lens_merge]
        have sd : Same H3 (upd H3 l (.dK lensK)) := snew hl
        have hD : (upd H3 l (.dK lensK)) l = some (.dK lensK) := upd_same
        replace sd := sl3.trans sd
        clear at_ t1
        generalize upd H3 l (.dK lensK) = H4 at *
        show tSeq _ _ _ ([some (.ref a), some (.str h), some (.int ((V.str h :: zs).length : Nat)), some (.ref l), none] : L2.St) _
        have t4 := t0.same sd
        refine ⟨_, rfl, _, rfl, l, _, rfl, DGet.k (k := Sum.inr h) hD, _, rfl, ?_⟩
        by_cases m : h ∈ ([("set" : Str), "show", "ask", "if", "then", "while"] : List Str)
        case neg =>
          rw [lens_out m]
          have := key H4 sd
          rw [ex_none n5 n4 n2 (fun q => by
            unfold lenKeys at q
            simp only [List.mem_cons, List.not_mem_nil, or_false, not_or] at q m
            obtain ⟨m1, m2, m3, m4, m5, m6⟩ := m
            rcases q with q | q | q | q | q | q | q | q
            · exact n1 q
            · exact m1 q
            · exact m2 q
            · exact m3 q
            · exact m4 q
            · exact m5 q
            · exact m6 q
            · exact n3 q) r] at this
          exact iteT this
        rw [lens_in m]
        refine iteF ?_
        refine ⟨_, rfl, _, rfl, _, rfl, l, _, rfl, by rw [← lens_in m]; exact DGet.k (k := Sum.inr h) hD, rfl, _, rfl, ite2 (fun c => ?_) (fun c => ?_)⟩
        · have bad : exD (.tuple (.str h :: r)) = false := by
            have ne : ¬ ((r.length : Int) + 1 = lenAt h) := fun e => by
              rw [← el] at e
              rw [e] at c
              simp at c
            by_cases e1 : h = "set"
            · subst e1
              rw [show lenAt "set" = 3 by decide +kernel] at ne
              rw [ex_set, decide_eq_false (show ¬ r.length = 2 by omega), Bool.false_and]
            · rw [ex_plain (by simp only [List.mem_cons, List.not_mem_nil, or_false] at m ⊢; exact m.resolve_left e1), decide_eq_false ne, Bool.false_and]
          have := key H4 sd
          rw [bad] at this
          exact this
        have eq : (r.length : Int) + 1 = lenAt h := by
          rw [← el]
          simpa using c
        clear c
        refine (fun (rest : ∀ (p : Addr) (H5 : Hp), (∃ k0 : Nat, 1 ≤ k0 ∧ Same H4 H5 ∧ SqT K H5 p ((V.str h :: zs).drop k0) ∧ ∀ H', Same H1 H' → Q (.bl (((PyData.str h :: r).drop k0).all exD)) H') → (?G3 : Addr → Hp → Prop) p H5) => ?first3) ?second3
        case first3 =>
          refine ⟨_, rfl, _, rfl, rfl, _, rfl, ite2 (fun c => ?_) (fun c => ?_)⟩
          · have eh : h = "set" := V.str.inj (of_decide_eq_true c)
            refine ⟨_, rfl, ?_⟩
            unfold tNoPart
            refine slA_from (k := 2) t4.at_ fun p H5 s5 e5 => ?_
            refine rest p H5 ⟨2, by decide, s5, e5, fun H' s => ?_⟩
            have e3 : lenAt h = 3 := by rw [eh]; decide +kernel
            rw [e3] at eq
            have := key H' s
            rw [eh, ex_set, (hC (by rw [eh]; simp)).2, decide_eq_true (show r.length = 2 by omega)] at this
            obtain ⟨x, y, rfl⟩ := len2 (show r.length = 2 by omega)
            simpa using this
          · have e1 : h ≠ "set" := fun e => c (decide_eq_true (by rw [e]))
            refine ⟨_, rfl, ?_⟩
            unfold tNoPart
            refine slA_from (k := 1) t4.at_ fun p H5 s5 e5 => ?_
            refine rest p H5 ⟨1, by decide, s5, e5, fun H' s => ?_⟩
            have := key H' s
            rw [ex_plain (by simp only [List.mem_cons, List.not_mem_nil, or_false] at m ⊢; exact m.resolve_left e1), decide_eq_true eq, Bool.true_and] at this
            exact this
        case second3 =>
        rintro p H5 ⟨k0, hk0, s5, e5, key5⟩
        have s15 := sd.trans s5
        have dxs : DxAll K H5 ((V.str h :: zs).drop k0) ((PyData.str h :: r).drop k0) := DxAll.drop k0 (t0.same s15).all
        have good : ∀ x ∈ (PyData.str h :: r).drop k0, asc x = true ∧ wt x ≤ 100000 ∧ x.depth < n := fun x hx => by
          have mx : x ∈ r := by
            obtain ⟨q, rfl⟩ : ∃ q, k0 = q + 1 := ⟨k0 - 1, by omega⟩
            exact List.mem_of_mem_drop hx
          exact ⟨asc_mem ar (List.mem_cons_of_mem _ mx), Nat.le_trans (wtA_mem mx) wr, dr x mx⟩
        refine ⟨p, rfl, ⟨_, e5⟩, fun Dn hDn => ?_⟩
        have lds : ((PyData.str h :: r).drop k0).length ≤ 100000 := by
          rw [List.length_drop, List.length_cons]
          have := wtA_len r
          omega
        have hn : H5 Dn = none := hDn
        generalize (V.str h :: zs).drop k0 = xs at *
        generalize (PyData.str h :: r).drop k0 = ds at *
        refine lc_it (walk_tup (K := K) (a := p) (xs := xs)) (fun i Hc => Same H5 Hc ∧ Hc Dn = some (.lst (((ds.take i).filter fun x => !exD x).map fun _ => V.int 1))) ⟨snew hDn, upd_same⟩ (fun i Hc _ q => Dx.sameT q.1 e5) ?_ ?_
        · rintro i y Hc Hc' hi ⟨q1, q2⟩ ⟨rfl, hy⟩
          obtain ⟨x, hx, hxd⟩ := DxAll.atV dxs hy
          obtain ⟨g1, g2, g3⟩ := good x (List.mem_of_getElem? hx)
          have tk : ds.take (i + 1) = ds.take i ++ [x] := by
            rw [List.take_succ, hx]
            rfl
          refine ⟨rfl, ?_⟩
          refine ⟨_, rfl, y, x, rfl, dxSame q1 _ _ hxd, g1, g2, g3, fun H6 s6 => ⟨_, rfl, ?_⟩⟩
          have q26 := s6 _ _ q2
          cases ce : exD x with
          | true =>
            refine iteF ⟨q1.trans s6, ?_⟩
            rw [tk, List.filter_append, List.filter_cons, ce, List.filter_nil]
            simpa using q26
          | false =>
            refine iteT ⟨_, q26, ?_, upd_same_new (q1.trans s6) hn, ?_⟩
            · rw [List.length_map]
              have h1 := List.length_filter_le (fun x => !exD x) (ds.take i)
              rw [List.length_take] at h1
              rw [sizeLine_eq]
              omega
            · rw [upd_same, tk, List.filter_append, List.filter_cons, ce, List.filter_nil, List.map_append]
              rfl
        · rintro Hc ⟨q1, q2⟩
          rw [DxAll.len dxs, List.take_length] at q2
          refine ⟨by show 0 ≤ sizeLine; exact Nat.zero_le _, fun e hE => ⟨Dn, e, _, rfl, rfl, .inr ⟨SqL.of (snew hE _ _ q2), SqL.of upd_same⟩, ?_⟩⟩
          have := key5 _ ((s15.trans q1).trans (snew (o := .lst []) hE))
          have ev : ((ds.filter fun x => !exD x).map fun _ => V.int 1).isEmpty = ds.all exD := by
            rw [Bool.eq_iff_iff, List.isEmpty_map, List.isEmpty_iff, List.filter_eq_nil_iff, List.all_eq_true]
            simp
          rw [ev]
          exact this
      | _ =>
        have := k H1 s1
        rw [show exD (.tuple (_ :: r)) = false from Exq.exOk_else _ _ fun x q e => by cases e] at this
        exact iteT this
    | _ =>
      have := k H rsame
      exact iteT this
end
end Any
set_option Elab.async false
set_option linter.all false
set_option maxRecDepth 100000
set_option maxHeartbeats 4000000
/-! The law's own form: an expression fits. -/
namespace Any
open PySem PySem.Spec PyProof.Rows L2 RT
open He (ga ma)
/-! ### the mathematics -/
theorem nodes_snd : ∀ (n : Nat) (p q : List Nat) (d : PyData), (nodesN n p d).map (·.2) = (nodesN n q d).map (·.2)
  | 0, _, _, _ => rfl
  | n + 1, p, q, d => by
    by_cases hd : ∃ h r, d = .tuple (.str h :: r)
    · obtain ⟨h, r, rfl⟩ := hd
      show (_ :: _) = (_ :: _)
      congr 1
      rw [List.map_flatMap, List.map_flatMap]
      congr 1
      funext i
      exact nodes_snd n _ _ _
    · rw [nodesN_else fun x r e => hd ⟨x, r, e⟩, nodesN_else fun x r e => hd ⟨x, r, e⟩]
      rfl
theorem namesW_at (ws : List Str) (p : List Nat) (d : PyData) : ((nodesL p d).filterMap fun e => nameIn ws e.2) = namesW ws d := by
  have : ∀ l : List (List Nat × PyData), (l.filterMap fun e => nameIn ws e.2) = (l.map (·.2)).filterMap (nameIn ws) := fun l => by
    rw [List.filterMap_map]
    rfl
  unfold namesW
  rw [this, this]
  exact congrArg _ (nodes_snd _ _ _ _)
theorem namesW_node (ws : List Str) (h : Str) (r : List PyData) : namesW ws (.tuple (.str h :: r)) = (nameIn ws (.tuple (.str h :: r))).toList ++ (kidsAt h).flatMap fun i => namesW ws ((PyData.str h :: r).getD i .none) := by
  have : namesW ws (.tuple (.str h :: r)) = ((nodesL [] (.tuple (.str h :: r))).filterMap fun e => nameIn ws e.2) := rfl
  rw [this, nodesL_node, List.filterMap_cons, List.filterMap_flatMap]
  have : (fun a => List.filterMap (fun e => nameIn ws e.2) (nodesL ([] ++ [a]) ((PyData.str h :: r).getD a .none))) = fun i => namesW ws ((PyData.str h :: r).getD i .none) := funext fun i => namesW_at ws _ _
  rw [this]
  cases nameIn ws (.tuple (.str h :: r)) <;> rfl
def fitB (vs ahead : List Str) (d : PyData) : Bool := (ownNames d).all (fun x => decide (x ∈ vs)) && (calls d).all (fun x => decide (x ∈ ahead))
/-- what the node itself asks -/
def headB (vs ahead : List Str) (h : Str) (r : List PyData) : Bool :=
  ((nameIn ["name", "set", "each"] (.tuple (.str h :: r))).toList.all fun x => decide (x ∈ vs)) && ((nameIn ["call"] (.tuple (.str h :: r))).toList.all fun x => decide (x ∈ ahead))
theorem fitB_node (vs ahead : List Str) (h : Str) (r : List PyData) : fitB vs ahead (.tuple (.str h :: r)) = (headB vs ahead h r && (kidsAt h).all fun i => fitB vs ahead ((PyData.str h :: r).getD i .none)) := by
  unfold fitB headB ownNames calls
  rw [namesW_node, namesW_node, List.all_append, List.all_append, List.all_flatMap, List.all_flatMap, Bool.eq_iff_iff]
  simp only [Bool.and_eq_true, List.all_eq_true]
  constructor
  · rintro ⟨⟨a, b⟩, c, d⟩
    exact ⟨⟨a, c⟩, fun i hi => ⟨b i hi, d i hi⟩⟩
  · rintro ⟨⟨a, c⟩, q⟩
    exact ⟨⟨a, fun i hi => (q i hi).1⟩, c, fun i hi => (q i hi).2⟩
def isTup : PyData → Bool
  | .tuple _ => true
  | _ => false
theorem isTup_ty (d : PyData) : isTy "tuple" d = isTup d := by cases d <;> rfl
/-- the parts that are tuples are the expressions within -/
theorem fit_kids {vs ahead : List Str} {h : Str} {r : List PyData} (ok : Exq.nodeOk nmD h r = true) (kid : ∀ i ∈ kidsAt h, i < r.length + 1 ∧ exD ((PyData.str h :: r).getD i .none) = true) (k0 : ∀ i ∈ kidsAt h, 1 ≤ i) :
    (r.filter fun x => isTup x && !fitB vs ahead x).isEmpty = (kidsAt h).all fun i => fitB vs ahead ((PyData.str h :: r).getD i .none) := by
  rw [Bool.eq_iff_iff, List.isEmpty_iff, List.filter_eq_nil_iff, List.all_eq_true]
  constructor
  · intro q i hi
    obtain ⟨l, ex⟩ := kid i hi
    have h1 := k0 i hi
    obtain ⟨j, rfl⟩ : ∃ j, i = j + 1 := ⟨i - 1, by omega⟩
    have lj : j < r.length := by omega
    rw [List.getD_cons_succ, List.getD_eq_getElem?_getD, List.getElem?_eq_getElem lj] at ex ⊢
    have := q r[j] (List.getElem_mem _)
    obtain ⟨x, r', e, _⟩ := ex_node ex
    have it : isTup r[j] = true := by
      have : r[j] = .tuple (.str x :: r') := e
      rw [this]
      rfl
    rw [it] at this
    simpa using this
  · intro q x hx
    obtain ⟨j, hj⟩ := List.getElem?_of_mem hx
    by_cases m : j + 1 ∈ kidsAt h
    · have := q _ m
      rw [List.getD_cons_succ, List.getD_eq_getElem?_getD, hj] at this
      have this : fitB vs ahead x = true := this
      rw [this]
      simp
    · rcases ex_item ok (j + 1) x hj m with ⟨s, rfl⟩ | ⟨s, rfl⟩ <;> simp [isTup]
theorem kidsAt_pos (h : Str) : ∀ i ∈ kidsAt h, 1 ≤ i := by
  by_cases m : h ∈ chiKeys
  · have : ∀ h ∈ chiKeys, ∀ i ∈ kidsAt h, 1 ≤ i := by decide +kernel
    exact this h m
  · rw [kids_none m]
    intro i hi
    cases hi
def spFits (K : PySem.W.Frag) (n : Nat) : Sp := fun vs H Q _ => ∃ v d av aa vars ahead, vs = [v, .ref av, .ref aa] ∧ Dx K H v d ∧ exD d = true ∧ wt d ≤ 100000 ∧ d.depth < n ∧ SqT K H av (vars.map V.str) ∧ SqL K H aa (ahead.map V.str) ∧ ∀ H', Same H H' → Q (.bl (fitB vars ahead d)) H'
section
variable {P : Program} {w : World} {K : PySem.W.Frag} {mg : Str → Option Value} {base : Heap}
theorem scLawFits : FnScope ["e", "variables", "ahead", "inner"] ["e", "variables", "ahead"] (defScope sLawFits) := ⟨rfl, rfl, rfl, by decide +kernel, rfl, by decide +kernel, by decide +kernel⟩
theorem hLawFits (D : DS K mg) (T : TF mg) : ∀ n : Nat, Has P w K mg base CX0 "_law_fits" sLawFits ["e", "variables", "ahead"] (n + 1) (spFits K n) := by
  intro n
  induction n with
  | zero =>
    exact Has.mk0 D.aLawFits scLawFits (fun _ _ _ _ _ _ us hl => match us, hl with | [_, _, _], _ => rfl) (fun vs H Q E ⟨_, _, _, _, _, _, _, _, _, _, h, _⟩ => absurd h (Nat.not_lt_zero _)) (fun cdv A outer s H vs Q E hr ⟨_, _, _, _, _, _, _, _, _, _, h, _⟩ => absurd h (Nat.not_lt_zero _))
  | succ n ih =>
  have hLawFits : Has P w K mg base CX0 _ _ _ (n + 1) _ := ih
  refine Has.mk0 D.aLawFits scLawFits (fun _ _ _ _ _ _ us hl => match us, hl with | [_, _, _], _ => rfl) (fun vs H Q E h => ?_) (fun cdv A outer s H vs Q E hr h => ?_)
  · obtain ⟨v, d, av, aa, vars, ahead, rfl, _⟩ := h
    rfl
  · obtain ⟨v, d, av, aa, vars, ahead, rfl, hd, hex, hw, hdep, hV, hA, k⟩ := h
    refine ⟨_, (pss_cons (ps_if (PW.pt (pw_or (PW.pt (pw_and (pt_cmpR op_in_seq (pe_ix ix_tup (pv 0) pe_int (fun _ _ => rfl)) (pe_lst (pa_cons pe_str (pa_cons pe_str (pa_cons pe_str pa_nil)))) (by rfl)) (pw_and1 (pt_cmpR op_notIn_seq (pe_ix ix_tup (pv 0) pe_int (fun _ _ => rfl)) (pv 1) (by rfl))))) (pw_or1 (PW.pt (pw_and (pt_cmpR op_eq (pe_ix ix_tup (pv 0) pe_int (fun _ _ => rfl)) pe_str (nomark _)) (pw_and1 (pt_cmpR op_notIn_seq (pe_ix ix_tup (pv 0) pe_int (fun _ _ => rfl)) (pv 2) (by rfl))))))))
        (pss_one (ps_ret pe_bl))
        pss_nil)
      (pss_one (ps_ret (pe_cmpR (op_eqE (K := K) rfl hr.units) (pe_lc (own := [("inner", 3)]) (g := (gName 3)) rfl scLawFits.nd (pi_tup (pe_slice sl_tupA (pv 0) (po_some pe_int) po_none)) (blkOk_by (own := [("inner", 3)]) (N := ["e", "variables", "ahead", "inner"]) (sc := defScope sLawFits) (by decide +kernel)) (fun _ _ _ _ _ => (pg_name (i := 3) scLawFits.nd rfl (Or.inl rfl))) (fun _ _ _ _ _ => pts_one (PW.pt (pw_and (pt_val (pe_callB (call_isiK (K := K) rfl) (by rfl) T.isinstance (by decide +kernel) (pa_cons (pv 3) (pa_cons (pe_bltn (v := .ty "tuple") (by rfl) T.tuple (by decide +kernel) rfl) pa_nil)))) (pw_and1 (pt_not (pt_val (pe_fn hLawFits (hr.mono (by omega)) (by rfl) (pa_cons (pv 3) (pa_cons (pv 1) (pa_cons (pv 2) pa_nil)))))))))) (fun _ _ _ _ _ => pe_int)) (pe_lst pa_nil) (nomark _))))), ?_⟩
    obtain ⟨h, r, rfl, ok, kid⟩ := ex_node hex
    obtain ⟨a, xs, rfl, t⟩ := hd.tupD
    obtain ⟨v0, zs, rfl, h0, hr0⟩ : ∃ v0 zs, xs = v0 :: zs ∧ Dx K H v0 (.str h) ∧ DxAll K H zs r := by
      cases t.all with
      | cons a b => exact ⟨_, _, rfl, a, b⟩
    cases h0
    rw [fitB_node] at k
    refine (fun (rest : ∀ H1, Same H H1 → headB vars ahead h r = true → (?G : Hp → Prop) H1) => ?first) ?second
    case first =>
      refine ⟨_, rfl, a, _, _, _, rfl, rfl, t.at_, atI_nat (j := 0) rfl, by show 3 ≤ sizeLine; decide, fun l1 hl1 => ?_⟩
      have s1 : Same H (upd H l1 (.lst [V.str "name", V.str "set", V.str "each"])) := snew hl1
      refine ⟨l1, _, rfl, .inl (SqL.of upd_same), rfl, flat_strs ["name", "set", "each"], ?_⟩
      generalize upd H l1 (.lst [V.str "name", V.str "set", V.str "each"]) = H1 at s1 ⊢
      refine ⟨_, rfl, ?_⟩
      have l4 : inV (V.str h) [V.str "name", V.str "set", V.str "each"] = decide (h ∈ [("name" : Str), "set", "each"]) := inV_strs h ["name", "set", "each"]
      rw [if_neg Bool.false_ne_true, l4]
      have t1 := t.same s1
      have hV1 := Dx.sameT s1 hV
      have hA1 := s1.seq hA
      by_cases m : h ∈ ([("name" : Str), "set", "each"] : List Str)
      · obtain ⟨x, r', er, _⟩ := named_node ok (by simp only [List.mem_cons, List.not_mem_nil, or_false] at m ⊢; rcases m with m | m | m <;> simp [m])
        obtain ⟨v1, e1, h1⟩ := t1.get 1 (d := .str x) (by rw [er]; rfl)
        cases h1
        have hb : headB vars ahead h r = decide (x ∈ vars) := by
          rw [er]
          have e1 : nameIn ["name", "set", "each"] (.tuple (.str h :: .str x :: r')) = some x := if_pos m
          have e2 : nameIn ["call"] (.tuple (.str h :: .str x :: r')) = none := if_neg fun q => by
            rw [List.mem_singleton.mp q] at m
            revert m
            decide +kernel
          unfold headB
          rw [e1, e2]
          simp
        rw [decide_eq_true m]
        refine iteT ⟨_, rfl, a, _, _, _, rfl, rfl, t1.at_, e1, _, rfl, av, _, rfl, .inr hV1, rfl, flat_strs _, _, rfl, ?_⟩
        rw [if_pos rfl, inV_strs]
        cases c : decide (x ∈ vars) with
        | false =>
          have := k H1 s1
          rw [hb, c, Bool.false_and] at this
          exact iteT this
        | true =>
          refine iteF ⟨_, rfl, a, _, _, _, rfl, rfl, t1.at_, atI_nat (j := 0) rfl, rfl, _, rfl, ?_⟩
          have : decide (V.str h = V.str "call") = false := decide_eq_false fun q => by
            cases V.str.inj q
            revert m
            decide +kernel
          rw [this]
          refine iteF (iteF ?_)
          exact rest H1 s1 (hb.trans c)
      · rw [decide_eq_false m]
        refine iteF ⟨_, rfl, a, _, _, _, rfl, rfl, t1.at_, atI_nat (j := 0) rfl, rfl, _, rfl, ite2 (fun c => ?_) (fun c => ?_)⟩
        · have eh : h = "call" := V.str.inj (of_decide_eq_true c)
          obtain ⟨x, r', er, _⟩ := named_node ok (by rw [eh]; simp)
          obtain ⟨v1, e1, h1⟩ := t1.get 1 (d := .str x) (by rw [er]; rfl)
          cases h1
          have hb : headB vars ahead h r = decide (x ∈ ahead) := by
            rw [er]
            have e1 : nameIn ["name", "set", "each"] (.tuple (.str h :: .str x :: r')) = none := if_neg m
            have e2 : nameIn ["call"] (.tuple (.str h :: .str x :: r')) = some x := if_pos (by rw [eh]; simp)
            unfold headB
            rw [e1, e2]
            simp
          refine ⟨_, rfl, a, _, _, _, rfl, rfl, t1.at_, e1, _, rfl, aa, _, rfl, .inl hA1, rfl, flat_strs _, _, rfl, ?_⟩
          rw [if_pos rfl, inV_strs]
          cases c : decide (x ∈ ahead) with
          | false =>
            have := k H1 s1
            rw [hb, c, Bool.false_and] at this
            exact iteT this
          | true =>
            refine iteF ?_
            exact rest H1 s1 (hb.trans c)
        · have n : ∀ ws : List Str, h ∉ ws → nameIn ws (.tuple (.str h :: r)) = none := fun ws q => by
            unfold nameIn
            split
            · rename_i e
              cases e
              exact if_neg q
            · rfl
          have hb : headB vars ahead h r = true := by
            unfold headB
            rw [n _ m, n _ (fun q => c (decide_eq_true (by rw [List.mem_singleton.mp q])))]
            rfl
          exact rest H1 s1 hb
    case second =>
    intro H1 s1 hh
    have t1 := t.same s1
    rw [hh] at k
    simp only [Bool.true_and] at k
    refine ⟨_, rfl, _, rfl, ?_⟩
    unfold tNoPart
    refine slA_from (k := 1) t1.at_ fun p H2 s2 e2 => ?_
    have s12 := s1.trans s2
    have dxs := (t.same s12).all.drop 1
    simp only [List.drop_succ_cons, List.drop_zero] at e2 dxs
    have lr : r.length ≤ 100000 := by
      have := wtA_len r
      simp only [wt, wtA] at hw
      omega
    refine ⟨p, rfl, ⟨_, e2⟩, fun Dn hDn => ?_⟩
    have hn : H2 Dn = none := hDn
    refine lc_it (walk_tup (K := K) (a := p) (xs := zs)) (fun i Hc => Same H2 Hc ∧ Hc Dn = some (.lst (((r.take i).filter fun x => isTup x && !fitB vars ahead x).map fun _ => V.int 1))) ⟨snew hDn, upd_same⟩ (fun i Hc _ q => Dx.sameT q.1 e2) ?_ ?_
    · rintro i y Hc Hc' hi ⟨q1, q2⟩ ⟨rfl, hy⟩
      obtain ⟨x, hx, hxd⟩ := DxAll.atV dxs hy
      have mx := List.mem_of_getElem? hx
      have hxc := dxSame q1 _ _ hxd
      have tk : r.take (i + 1) = r.take i ++ [x] := by
        rw [List.take_succ, hx]
        rfl
      refine ⟨rfl, ?_⟩
      refine ⟨_, rfl, _, _, _, _, _, rfl, .ty "tuple", hxc.ty, kit_ty (kit_tuple x), _, rfl, ?_⟩
      rw [isTup_ty]
      cases ct : isTup x with
      | false =>
        refine iteF ⟨q1, ?_⟩
        rw [tk, List.filter_append, List.filter_cons, ct, List.filter_nil]
        simpa using q2
      | true =>
        have ex : exD x = true := by
          by_cases m : i + 1 ∈ kidsAt h
          · have := (kid _ m).2
            rw [List.getD_cons_succ, List.getD_eq_getElem?_getD, hx] at this
            exact this
          · rcases ex_item ok (i + 1) x hx m with ⟨s, rfl⟩ | ⟨s, rfl⟩ <;> cases ct
        have wx : wt x ≤ 100000 := by
          have := wtA_mem mx
          simp only [wt, wtA] at hw
          omega
        have dx : x.depth < n := by
          have h1 := Exq.depth_mem (List.mem_cons_of_mem (PyData.str h) mx)
          rw [depth_tup] at hdep
          omega
        have sc := s12.trans q1
        refine iteT ⟨_, rfl, _, rfl, _, rfl, y, x, av, aa, vars, ahead, rfl, hxc, ex, wx, dx, Dx.sameT sc hV, sc.seq hA, fun H6 s6 => ⟨_, rfl, ?_⟩⟩
        have q26 := s6 _ _ q2
        cases ce : fitB vars ahead x with
        | true =>
          refine iteF ⟨q1.trans s6, ?_⟩
          rw [tk, List.filter_append, List.filter_cons, ct, ce, List.filter_nil]
          simpa using q26
        | false =>
          refine iteT ⟨_, q26, ?_, upd_same_new (q1.trans s6) hn, ?_⟩
          · rw [List.length_map]
            have h1 := List.length_filter_le (fun x => isTup x && !fitB vars ahead x) (r.take i)
            rw [List.length_take] at h1
            rw [sizeLine_eq]
            omega
          · rw [upd_same, tk, List.filter_append, List.filter_cons, ct, ce, List.filter_nil, List.map_append]
            rfl
    · rintro Hc ⟨q1, q2⟩
      rw [DxAll.len dxs, List.take_length] at q2
      refine ⟨by show 0 ≤ sizeLine; exact Nat.zero_le _, fun e hE => ⟨Dn, e, _, rfl, rfl, .inr ⟨SqL.of (snew hE _ _ q2), SqL.of upd_same⟩, ?_⟩⟩
      have := k _ ((s12.trans q1).trans (snew (o := .lst []) hE))
      rw [List.isEmpty_map, fit_kids ok kid (kidsAt_pos h)]
      exact this
end
end Any
set_option Elab.async false
set_option linter.all false
set_option maxRecDepth 100000
set_option maxHeartbeats 4000000
/-! The law's own form of a program. -/
namespace Any
open PySem PySem.Spec PyProof.Rows L2 RT
open He (ga ma)
def lawL (vs : List Str) : List Str → List PyData → PyData → Bool
  | ahead, [], body => exD body && fitB vs ahead body
  | ahead, .tuple [.str n, e] :: r, body => isNm n && (exD e && (!decide (n ∈ ahead) && (fitB vs ahead e && lawL vs (ahead ++ [n]) r body)))
  | _, _ :: _, _ => false
theorem pairD_else {p : PyData} (h : ∀ n e, p ≠ .tuple [.str n, e]) : pairD p = false := by
  cases hp : pairD p with
  | false => rfl
  | true =>
    obtain ⟨s, e, rfl, _⟩ := pairD_of hp
    exact absurd rfl (h s e)
theorem lawL_else {vs ahead : List Str} {p : PyData} {r : List PyData} {body : PyData} (h : ∀ n e, p ≠ .tuple [.str n, e]) : lawL vs ahead (p :: r) body = false := by
  unfold lawL
  split
  · contradiction
  · rename_i e
    cases e
    exact absurd rfl (h _ _)
  · rfl
theorem lawL_eq {vs : List Str} {body : PyData} : ∀ (ps : List PyData) (ahead : List Str), ahead.Nodup → lawL vs ahead ps body = (ps.all pairD && (decide (ahead ++ headsD ps).Nodup && progL vs ahead (partsL ps body)))
  | [], ahead, nd => by
    show (exD body && fitB vs ahead body) = (true && (decide (ahead ++ []).Nodup && progL vs ahead [.tuple [.str "body", body]]))
    rw [List.append_nil, decide_eq_true nd, progL_cons, Bool.true_and, Bool.true_and]
    unfold fitB progL
    rw [Bool.and_true]
  | p :: r, ahead, nd => by
    by_cases hp : ∃ n e, p = .tuple [.str n, e]
    · obtain ⟨n, e, rfl⟩ := hp
      show (isNm n && (exD e && (!decide (n ∈ ahead) && (fitB vs ahead e && lawL vs (ahead ++ [n]) r body)))) = _
      have hh : headsD (.tuple [.str n, e] :: r) = n :: headsD r := rfl
      have hl : partsL (.tuple [.str n, e] :: r) body = .tuple [.str n, e] :: partsL r body := rfl
      have ha : pairD (.tuple [.str n, e]) = isNm n := rfl
      rw [hh, hl, progL_cons, List.all_cons, ha]
      by_cases m : n ∈ ahead
      · have : ¬ (ahead ++ n :: headsD r).Nodup := fun q => by
          have := List.nodup_append.mp q
          exact this.2.2 n m n (List.mem_cons_self ..) rfl
        rw [decide_eq_true m, decide_eq_false this]
        simp
      · have nd2 : (ahead ++ [n]).Nodup := List.nodup_append.mpr ⟨nd, by simp, fun a ha b hb => by rw [List.mem_singleton.mp hb]; exact fun q => m (by rw [← q]; exact ha)⟩
        rw [lawL_eq r _ nd2, decide_eq_false m, List.append_assoc]
        unfold fitB
        simp only [Bool.not_false, Bool.true_and]
        rw [Bool.eq_iff_iff]
        simp only [Bool.and_eq_true]
        constructor
        · rintro ⟨a, b, ⟨c, d⟩, e, f, g⟩
          exact ⟨⟨a, e⟩, f, b, c, d, g⟩
        · rintro ⟨⟨a, e⟩, f, b, c, d, g⟩
          exact ⟨a, b, ⟨c, d⟩, e, f, g⟩
    · have h : ∀ n e, p ≠ .tuple [.str n, e] := fun n e q => hp ⟨n, e, q⟩
      rw [lawL_else h, List.all_cons, pairD_else h]
      rfl
theorem shaped_ones {α : Type} (l : List α) : SeqAt.shaped (.list (l.map fun _ => PyData.int 1)) = true := by
  unfold SeqAt.shaped
  rw [Bool.and_eq_true]
  refine ⟨canAll fun _ _ => rfl, decide_eq_true ?_⟩
  show PyData.depthAll _ + 1 ≤ 64
  have := depthAll_le (f := fun _ : α => PyData.int 1) (n := 0) (xs := l) fun x _ => Nat.le_refl _
  omega
theorem dp_ones {K : PySem.W.Frag} {H : Hp} {α : Type} : ∀ l : List α, DpAll K H (l.map fun _ => V.int 1) (l.map fun _ => PyData.int 1)
  | [] => .nil
  | _ :: l => .cons (.int 1) (dp_ones l)
theorem eqv_ones {α : Type} (l : List α) : PyData.eqv (.list (l.map fun _ => PyData.int 1)) (.list []) = l.isEmpty := by
  cases l <;> rfl
/-- rows of ones against the empty one -/
theorem ne_ones {K : PySem.W.Frag} {H : Hp} {a b : Addr} {α : Type} {l : List α} {Q : VK} (h1 : SqL K H a (l.map fun _ => V.int 1)) (h2 : SqL K H b []) (q : Q (.bl (!l.isEmpty)) H) : rNeD K (.ref a) (.ref b) H Q :=
  ⟨.list (l.map fun _ => PyData.int 1), .list [], .lst h1 (dp_ones l), .lst h2 .nil, shaped_ones l, shaped_ones ([] : List α), by rw [eqv_ones]; exact q⟩
theorem filter_not {α : Type} (l : List α) (p : α → Bool) : (l.filter fun x => !p x).isEmpty = l.all p := by
  rw [Bool.eq_iff_iff, List.isEmpty_iff, List.filter_eq_nil_iff, List.all_eq_true]
  simp
def spLProg (K : PySem.W.Frag) : Sp := fun vs H Q _ => ∃ v d, vs = [v] ∧ Dx K H v d ∧ asc d = true ∧ wt d < 16000 ∧ d.depth ≤ 60 ∧ ∀ H', Same H H' → Q (.bl (progD d)) H'
section
variable {P : Program} {w : World} {K : PySem.W.Frag} {mg : Str → Option Value} {base : Heap}
theorem scLawIsProgram : FnScope ["thing", "ahead", "part", "name"] ["thing"] (defScope sLawIsProgram) := ⟨rfl, rfl, rfl, by decide +kernel, rfl, by decide +kernel, by decide +kernel⟩
theorem hLawIsProgram (D : DS K mg) (T : TF mg) : Has P w K mg base CX0 "_law_is_program" sLawIsProgram ["thing"] 68 (spLProg K) := by
  have hLawIsName : Has P w K mg base CX0 _ _ _ 2 _ := hLawIsName D T
  have hLawIsExpression : Has P w K mg base CX0 _ _ _ 67 _ := hLawIsExpression D T 64
  have hLawFits : Has P w K mg base CX0 _ _ _ 65 _ := hLawFits D T 64
  refine Has.mk0 D.aLawIsProgram scLawIsProgram (fun _ _ _ _ _ _ us hl => match us, hl with | [_], _ => rfl) (fun vs H Q E h => ?_) (fun cdv A outer s H vs Q E hr h => ?_)
  · obtain ⟨v, d, rfl, _⟩ := h
    rfl
  · obtain ⟨v, d, rfl, hd, ha, hw, hdep, k⟩ := h
    refine ⟨_, (pss_cons (ps_if (PW.pt (pw_or (pt_not (pt_val (pe_callB call_isi (by rfl) T.isinstance (by decide +kernel) (pa_cons (pv 0) (pa_cons (pe_bltn (v := .ty "tuple") (by rfl) T.tuple (by decide +kernel) rfl) pa_nil))))) (pw_or (pt_cmpR op_ne (pe_callB call_len_seq (by rfl) T.len PySem.boot_len (pa_cons (pv 0) pa_nil)) pe_int (nomark _)) (pw_or (pt_not (pt_val (pe_callB call_isi (by rfl) T.isinstance (by decide +kernel) (pa_cons (pe_ix ix_tup (pv 0) pe_int (fun _ _ => rfl)) (pa_cons (pe_bltn (v := .ty "str") (by rfl) T.str (by decide +kernel) rfl) pa_nil))))) (pw_or1 (pt_cmpR op_ne (pe_ix ix_tup (pv 0) pe_int (fun _ _ => rfl)) pe_str (nomark _)))))))
        (pss_one (ps_ret pe_bl))
        pss_nil)
      (pss_cons (ps_if (PW.pt (pw_or (pt_not (pt_val (pe_callB call_isi (by rfl) T.isinstance (by decide +kernel) (pa_cons (pe_ix ix_tup (pv 0) pe_int (fun _ _ => rfl)) (pa_cons (pe_bltn (v := .ty "tuple") (by rfl) T.tuple (by decide +kernel) rfl) pa_nil))))) (pw_or (pt_not (pt_chain op_le op_le pe_int (pe_callB call_len_seq (by rfl) T.len PySem.boot_len (pa_cons (pe_ix ix_tup (pv 0) pe_int (fun _ _ => rfl)) pa_nil)) pe_int)) (pw_or (pt_not (pt_val (pe_callB call_isi (by rfl) T.isinstance (by decide +kernel) (pa_cons (pe_ix ix_tup (pv 0) pe_int (fun _ _ => rfl)) (pa_cons (pe_bltn (v := .ty "tuple") (by rfl) T.tuple (by decide +kernel) rfl) pa_nil))))) (pw_or1 (pt_cmpR op_gt (pe_callB call_len_seq (by rfl) T.len PySem.boot_len (pa_cons (pe_ix ix_tup (pv 0) pe_int (fun _ _ => rfl)) pa_nil)) pe_int (nomark _)))))))
        (pss_one (ps_ret pe_bl))
        pss_nil)
      (pss_cons (ps_if (PW.pt (pw_or (pt_cmpR (op_neD hr.units) (pe_lc (own := [("name", 3)]) (g := (gName 3)) rfl scLawIsProgram.nd (pi_tup (pe_ix ix_tup (pv 0) pe_int (fun _ _ => rfl))) (blkOk_by (own := [("name", 3)]) (N := ["thing", "ahead", "part", "name"]) (sc := defScope sLawIsProgram) (by decide +kernel)) (fun _ _ _ _ _ => (pg_name (i := 3) scLawIsProgram.nd rfl (Or.inl rfl))) (fun _ _ _ _ _ => pts_one (pt_not (pt_val (pe_fn hLawIsName (hr.mono (by decide)) (by rfl) (pa_cons (pv 3) pa_nil))))) (fun _ _ _ _ _ => pe_int)) (pe_lst pa_nil) (nomark _)) (pw_or1 (pt_cmpR op_ne (pe_callB call_lenS (by rfl) T.len PySem.boot_len (pa_cons (pe_callTy (cr_setS rfl) (by rfl) T.set (by decide +kernel) (pa_cons (pe_ix ix_tup (pv 0) pe_int (fun _ _ => rfl)) pa_nil)) pa_nil)) (pe_callB call_len_seq (by rfl) T.len PySem.boot_len (pa_cons (pe_ix ix_tup (pv 0) pe_int (fun _ _ => rfl)) pa_nil)) (nomark _)))))
        (pss_one (ps_ret pe_bl))
        pss_nil)
      (pss_cons (ps_set (i := 1) scLawIsProgram.nd rfl (Or.inl rfl) (pe_lst pa_nil))
      (pss_cons (ps_for PassesOwn.never rfl (pi_tup (pe_ix ix_tup (pv 0) pe_int (fun _ _ => rfl))) (pg_name (i := 2) scLawIsProgram.nd rfl (Or.inl rfl))
        (pss_cons (ps_if (PW.pt (pw_or (pt_not (pt_val (pe_callB call_isi (by rfl) T.isinstance (by decide +kernel) (pa_cons (pv 2) (pa_cons (pe_bltn (v := .ty "tuple") (by rfl) T.tuple (by decide +kernel) rfl) pa_nil))))) (pw_or (pt_cmpR op_ne (pe_callB call_len_seq (by rfl) T.len PySem.boot_len (pa_cons (pv 2) pa_nil)) pe_int (nomark _)) (pw_or (pt_not (pt_val (pe_fn hLawIsName (hr.mono (by decide)) (by rfl) (pa_cons (pe_ix ix_tup (pv 2) pe_int (fun _ _ => rfl)) pa_nil)))) (pw_or1 (pt_not (pt_val (pe_fn hLawIsExpression (hr.mono (by decide)) (by rfl) (pa_cons (pe_ix ix_tup (pv 2) pe_int (fun _ _ => rfl)) pa_nil)))))))))
          (pss_one (ps_ret pe_bl))
          pss_nil)
        (pss_cons (ps_if (PW.pt (pw_or (pt_cmpR op_in_seq (pe_ix ix_tup (pv 2) pe_int (fun _ _ => rfl)) (pv 1) (by rfl)) (pw_or1 (pt_not (pt_val (pe_fn hLawFits (hr.mono (by decide)) (by rfl) (pa_cons (pe_ix ix_tup (pv 2) pe_int (fun _ _ => rfl)) (pa_cons (pe_ix ix_tup (pv 0) pe_int (fun _ _ => rfl)) (pa_cons (pv 1) pa_nil)))))))))
          (pss_one (ps_ret pe_bl))
          pss_nil)
        (pss_one (ps_set (i := 1) scLawIsProgram.nd rfl (Or.inl rfl) (pe_op op_cat (pv 1) (pe_lst (pa_cons (pe_ix ix_tup (pv 2) pe_int (fun _ _ => rfl)) pa_nil))))))))
      (pss_one (ps_ret (pe_and (pe_fn hLawIsExpression (hr.mono (by decide)) (by rfl) (pa_cons (pe_ix ix_tup (pv 0) pe_int (fun _ _ => rfl)) pa_nil)) (pe_one (pe_fn hLawFits (hr.mono (by decide)) (by rfl) (pa_cons (pe_ix ix_tup (pv 0) pe_int (fun _ _ => rfl)) (pa_cons (pe_ix ix_tup (pv 0) pe_int (fun _ _ => rfl)) (pa_cons (pv 1) pa_nil))))))))))))), ?_⟩
    have stop : ∀ H', Same H H' → progD d = false → Q (.bl false) H' := fun H' s e => by
      have := k H' s
      rw [e] at this
      exact this
    refine ⟨_, rfl, _, _, _, _, _, rfl, .ty "tuple", hd.ty, kit_ty (kit_tuple d), _, rfl, ?_⟩
    rw [isTup_ty]
    cases it : isTup d with
    | false => exact iteT (stop H rsame (rowB_not (by cases d <;> first | rfl | cases it)))
    | true =>
    obtain ⟨ds, rfl⟩ : ∃ ds, d = .tuple ds := by cases d <;> first | exact ⟨_, rfl⟩ | cases it
    obtain ⟨a, xs, rfl, t⟩ := hd.tupD
    have hl : xs.length = ds.length := t.len
    refine iteF ⟨_, rfl, a, xs, rfl, .inr t.at_, rfl, _, rfl, ?_⟩
    rw [hl]
    by_cases l4 : ds.length = 4
    case neg =>
      rw [decide_eq_false (show ¬ V.int (ds.length : Nat) = V.int 4 from fun q => l4 (by have := V.int.inj q; omega))]
      exact iteT (stop H rsame (rowB_not (by show decide ((ds.length : Int) = 4) = false; exact decide_eq_false (by omega))))
    rw [decide_eq_true (show V.int (ds.length : Nat) = V.int 4 by rw [l4]; rfl)]
    obtain ⟨d0, dv, dp, db, rfl⟩ := len4 l4
    refine iteF ?_
    obtain ⟨v0, e0, h0⟩ := t.get 0 rfl
    refine ⟨_, rfl, a, xs, _, v0, rfl, rfl, t.at_, e0, _, _, _, _, _, rfl, .ty "str", h0.ty, kit_ty (kit_str d0), _, rfl, ?_⟩
    have hstr : ∀ x : PyData, isTy "str" x = (match x with | .str _ => true | _ => false) := fun x => by cases x <;> rfl
    by_cases is : ∃ x, d0 = .str x
    case neg =>
      have e1 : isTy "str" d0 = false := by
        cases d0 with
        | str x => exact absurd ⟨x, rfl⟩ is
        | _ => rfl
      rw [e1]
      exact iteT (stop H rsame (progD_word (by cases d0 with | str x => exact absurd ⟨x, rfl⟩ is | _ => rfl)))
    obtain ⟨x0, rfl⟩ := is
    cases h0
    refine iteF ⟨_, rfl, a, xs, _, _, rfl, rfl, t.at_, e0, rfl, _, rfl, ?_⟩
    by_cases ex0 : x0 = "program"
    case neg =>
      rw [decide_eq_false (show ¬ V.str x0 = V.str "program" from fun q => ex0 (V.str.inj q))]
      exact iteT (stop H rsame (progD_word (by show decide (x0 ∈ [("program" : Str)]) = false; exact decide_eq_false (by simpa using ex0))))
    subst ex0
    rw [decide_eq_true rfl]
    refine iteF ?_
    have wd : wt dv + wt dp + wt db < 16000 := by
      simp only [wt, wtA] at hw
      omega
    have dd : dv.depth < 60 ∧ dp.depth < 60 ∧ db.depth < 60 := by
      have m1 := Exq.depth_mem (xs := [PyData.str "program", dv, dp, db]) (x := dv) (by simp)
      have m2 := Exq.depth_mem (xs := [PyData.str "program", dv, dp, db]) (x := dp) (by simp)
      have m3 := Exq.depth_mem (xs := [PyData.str "program", dv, dp, db]) (x := db) (by simp)
      rw [depth_tup] at hdep
      omega
    obtain ⟨v1, e1, h1⟩ := t.get 1 rfl
    obtain ⟨v2, e2, h2⟩ := t.get 2 rfl
    obtain ⟨v3, e3, h3⟩ := t.get 3 rfl
    refine ⟨_, rfl, a, xs, _, v1, rfl, rfl, t.at_, e1, _, _, _, _, _, rfl, .ty "tuple", h1.ty, kit_ty (kit_tuple dv), _, rfl, ?_⟩
    rw [isTup_ty]
    cases it1 : isTup dv with
    | false => exact iteT (stop H rsame (progD_vars (by cases dv <;> first | rfl | cases it1)))
    | true =>
    obtain ⟨ns, rfl⟩ : ∃ ds, dv = .tuple ds := by cases dv <;> first | exact ⟨_, rfl⟩ | cases it1
    obtain ⟨an, xn, rfl, tn⟩ := h1.tupD
    have ln : xn.length = ns.length := tn.len
    have stopV : ∀ H', Same H H' → (decide ((1 : Int) ≤ (ns.length : Int)) && decide ((ns.length : Int) ≤ 4)) = false → Q (.bl false) H' := fun H' s e => stop H' s (progD_vars (by rw [varsD_tup, e, Bool.false_and]))
    refine iteF ⟨_, rfl, a, xs, _, _, rfl, rfl, t.at_, e1, an, xn, rfl, .inr tn.at_, _, _, rfl, rfl, _, rfl, ?_⟩
    rw [ln]
    refine ite2 (fun c1 => ?_) (fun c1 => ?_)
    case refine_2 =>
      have c1' : ¬ (1 : Int) ≤ (ns.length : Int) := by simpa using c1
      exact ⟨_, rfl, stopV H rsame (by rw [decide_eq_false c1']; rfl)⟩
    refine ⟨_, _, rfl, rfl, _, rfl, ?_⟩
    refine ite2 (fun c2 => ?_) (fun c2 => ?_)
    · have c2' : ¬ (ns.length : Int) ≤ 4 := by simpa using c2
      exact stopV H rsame (by rw [decide_eq_false c2', Bool.and_false])
    have c2' : (ns.length : Int) ≤ 4 := by simpa using c2
    have lens : (decide ((1 : Int) ≤ (ns.length : Int)) && decide ((ns.length : Int) ≤ 4)) = true := by rw [c1, decide_eq_true c2']; rfl
    refine ⟨_, rfl, a, xs, _, v2, rfl, rfl, t.at_, e2, _, _, _, _, _, rfl, .ty "tuple", h2.ty, kit_ty (kit_tuple dp), _, rfl, ?_⟩
    rw [isTup_ty]
    cases it2 : isTup dp with
    | false => exact iteT (stop H rsame (progD_parts (by cases dp <;> first | rfl | cases it2)))
    | true =>
    obtain ⟨ps, rfl⟩ : ∃ ds, dp = .tuple ds := by cases dp <;> first | exact ⟨_, rfl⟩ | cases it2
    obtain ⟨ap, xp, rfl, tp⟩ := h2.tupD
    have lp : xp.length = ps.length := tp.len
    refine iteF ⟨_, rfl, a, xs, _, _, rfl, rfl, t.at_, e2, ap, xp, rfl, .inr tp.at_, _, _, rfl, rfl, _, rfl, ?_⟩
    rw [lp]
    refine ite2 (fun c3 => ?_) (fun c3 => ?_)
    · have c3' : (6 : Int) < (ps.length : Int) := by simpa using c3
      exact stop H rsame (progD_parts (by rw [partsD_tup, decide_eq_false (show ¬ (ps.length : Int) ≤ 6 by omega), Bool.false_and]))
    have c3' : (ps.length : Int) ≤ 6 := by
      have : ¬ (6 : Int) < (ps.length : Int) := by simpa using c3
      omega
    have key : ∀ H', Same H H' → Q (.bl ((ns.all nmD && decide (strsD ns).Nodup) && lawL (strsD ns) [] ps db)) H' := fun H' s => by
      have := k H' s
      rw [progD_four, decide_eq_true rfl, Bool.true_and, varsD_tup, lens, Bool.true_and, partsD_tup, decide_eq_true c3', Bool.true_and] at this
      rw [lawL_eq ps [] List.nodup_nil, List.nil_append]
      have e : ((ns.all nmD && decide (strsD ns).Nodup) && ((ps.all pairD && decide (headsD ps).Nodup) && progL (strsD ns) [] (partsL ps db))) = ((ns.all nmD && decide (strsD ns).Nodup) && (ps.all pairD && (decide (headsD ps).Nodup && progL (strsD ns) [] (partsL ps db)))) := by simp only [Bool.and_assoc]
      rw [← e]
      exact this
    clear k stop stopV
    -- the names of the variables
    refine ⟨_, rfl, a, xs, _, _, rfl, rfl, t.at_, e1, an, rfl, ⟨_, tn.at_⟩, fun Dn hDn => ?_⟩
    have hn : H Dn = none := hDn
    have ascN : asc (.tuple ns) = true := asc_mem ha (by simp)
    refine lc_it (walk_tup (K := K) (a := an) (xs := xn)) (fun i Hc => Same H Hc ∧ Hc Dn = some (.lst (((ns.take i).filter fun x => !nmD x).map fun _ => V.int 1))) ⟨snew hDn, upd_same⟩ (fun i Hc _ q => Dx.sameT q.1 tn.at_) ?_ ?_
    · rintro i y Hc Hc' hi ⟨q1, q2⟩ ⟨rfl, hy⟩
      obtain ⟨x, hx, hxd⟩ := DxAll.atV tn.all hy
      have mx := List.mem_of_getElem? hx
      have hxc := dxSame q1 _ _ hxd
      have tk : ns.take (i + 1) = ns.take i ++ [x] := by
        rw [List.take_succ, hx]
        rfl
      have wx : wt x ≤ 100000 := by
        have := wtA_mem mx
        simp only [wt] at wd
        omega
      refine ⟨rfl, ?_⟩
      refine ⟨_, rfl, y, x, rfl, hxc, wt_str wx, asc_mem ascN mx, fun H6 s6 => ⟨_, rfl, ?_⟩⟩
      have q26 := s6 _ _ q2
      cases ce : nmD x with
      | true =>
        refine iteF ⟨q1.trans s6, ?_⟩
        rw [tk, List.filter_append, List.filter_cons, ce, List.filter_nil]
        simpa using q26
      | false =>
        refine iteT ⟨_, q26, ?_, upd_same_new (q1.trans s6) hn, ?_⟩
        · rw [List.length_map]
          have h1 := List.length_filter_le (fun x => !nmD x) (ns.take i)
          rw [List.length_take] at h1
          rw [sizeLine_eq]
          omega
        · rw [upd_same, tk, List.filter_append, List.filter_cons, ce, List.filter_nil, List.map_append]
          rfl
    rintro H1 ⟨s1, q2⟩
    rw [ln, List.take_length] at q2
    refine ⟨by show 0 ≤ sizeLine; exact Nat.zero_le _, fun e hE => ?_⟩
    have se : Same H1 (upd H1 e (.lst [])) := snew hE
    refine ne_ones (SqL.of (se _ _ q2)) (SqL.of upd_same) ⟨_, rfl, ?_⟩
    rw [filter_not]
    replace s1 := s1.trans se
    generalize upd H1 e (.lst []) = H2 at s1 ⊢
    clear se hE q2
    cases c4 : ns.all nmD with
    | false =>
      have := key H2 s1
      rw [c4, Bool.false_and, Bool.false_and] at this
      exact iteT this
    | true =>
    refine iteF ?_
    rw [c4] at key
    simp only [Bool.true_and] at key
    have em := nms_map c4
    have exn : xn = (strsD ns).map V.str := dx_strs (by rw [← em]; exact tn.all)
    have t2 := t.same s1
    have tn2 := tn.same s1
    refine ⟨_, rfl, a, xs, _, _, rfl, rfl, t2.at_, e1, an, strsD ns, rfl, .inr (by rw [← exn]; exact tn2.at_), ?_, fun b hb => ⟨b, strsD ns, rfl, upd_same, fun ks nd mem => ?_⟩⟩
    · have : (strsD ns).length ≤ ns.length := List.length_filterMap_le ..
      omega
    have s3 : Same H (upd H2 b (StsO P w b (strsD ns))) := s1.trans (snew hb)
    refine ⟨_, rfl, a, xs, _, _, rfl, rfl, (t.same s3).at_, e1, an, xn, rfl, .inr (tn.same s3).at_, rfl, _, rfl, ?_⟩
    have e5 : decide (V.int (ks.length : Nat) = V.int (xn.length : Nat)) = decide (strsD ns).Nodup := by
      have l1 : xn.length = (strsD ns).length := by rw [exn, List.length_map]
      rw [l1, decide_eq_decide, ← nodup_len nd mem]
      exact ⟨fun z => Int.ofNat.inj (V.int.inj z), fun z => by rw [z]⟩
    rw [e5]
    cases c5 : decide (strsD ns).Nodup with
    | false =>
      have := key _ s3
      rw [c5, Bool.false_and] at this
      exact iteT this
    | true =>
    refine iteF ?_
    rw [c5] at key
    simp only [Bool.true_and] at key
    refine ⟨by show 0 ≤ sizeLine; exact Nat.zero_le _, fun A0 hA0 => ?_⟩
    obtain ⟨H3, eH3⟩ : ∃ H3, H3 = upd H2 b (StsO P w b (strsD ns)) := ⟨_, rfl⟩
    rw [← eH3] at s3
    change H3 = _ at eH3
    have s4 : Same H (upd (upd H2 b (StsO P w b (strsD ns))) A0 (.lst [])) := by rw [← eH3]; exact s3.trans (snew (by rw [eH3]; exact hA0))
    have hA1 : (upd (upd H2 b (StsO P w b (strsD ns))) A0 (.lst [])) A0 = some (.lst []) := upd_same
    show tSeq _ _ _ _ (upd (upd H2 b (StsO P w b (strsD ns))) A0 (.lst []))
    generalize upd (upd H2 b (StsO P w b (strsD ns))) A0 (.lst []) = H4 at s4 hA1 ⊢
    show tSeq _ _ _ ([some (.ref a), some (.ref A0), none, none] : L2.St) _
    have t4 := t.same s4
    have ascP : asc (.tuple ps) = true := asc_mem ha (by simp)
    have ascB : asc db = true := asc_mem ha (by simp)
    refine ⟨_, rfl, a, xs, _, _, rfl, rfl, t4.at_, e2, ap, rfl, ⟨_, (tp.same s4).at_⟩, for_it (walk_tup (K := K) (a := ap) (xs := xp)) (fun i σ Hc => ∃ (ahead : List Str) (A : Addr) (v2 : Option V), σ = [some (.ref a), some (.ref A), v2, none] ∧ Hc A = some (.lst (ahead.map V.str)) ∧ ahead.length ≤ i ∧ Same H Hc ∧
      lawL (strsD ns) [] ps db = lawL (strsD ns) ahead (ps.drop i) db) ⟨[], A0, none, rfl, hA1, Nat.le_refl _, s4, rfl⟩ (fun _ _ _ _ ⟨_, _, _, _, _, _, s, _⟩ => (tp.same s).at_) ?_ ?_⟩
    · rintro i y σ Hc Hc' hi ⟨ahead, A, v2, rfl, hAc, al, sc, sp⟩ ⟨rfl, hy⟩
      obtain ⟨x, hx, hxd⟩ := DxAll.atV tp.all hy
      have mx := List.mem_of_getElem? hx
      have hxc := dxSame sc _ _ hxd
      have drop1 : ps.drop i = x :: ps.drop (i + 1) := List.drop_eq_getElem?_toList_append .. ▸ (by rw [hx]; rfl)
      rw [drop1] at sp
      have fail : ∀ H', Same H H' → lawL (strsD ns) ahead (x :: ps.drop (i + 1)) db = false → Q (.bl false) H' := fun H' s e => by
        have := key H' s
        rw [sp, e] at this
        exact this
      have failE : ∀ H', Same H H' → (∀ n e, x ≠ .tuple [.str n, e]) → Q (.bl false) H' := fun H' s e => fail H' s (lawL_else e)
      show tSeq _ _ _ ([some (.ref a), some (.ref A), some y, none] : L2.St) _
      refine ⟨_, rfl, _, _, _, _, _, rfl, .ty "tuple", hxc.ty, kit_ty (kit_tuple x), _, rfl, ?_⟩
      rw [isTup_ty]
      cases itx : isTup x with
      | false => exact iteT (failE _ sc fun n e q => by rw [q] at itx; cases itx)
      | true =>
      obtain ⟨es, rfl⟩ : ∃ ds, x = .tuple ds := by cases x <;> first | exact ⟨_, rfl⟩ | cases itx
      obtain ⟨b, ys, rfl, tb⟩ := hxc.tupD
      refine iteF ⟨_, rfl, b, ys, rfl, .inr tb.at_, rfl, _, rfl, ?_⟩
      rw [tb.len]
      by_cases l2 : es.length = 2
      case neg =>
        rw [decide_eq_false (show ¬ V.int (es.length : Nat) = V.int 2 from fun q => l2 (by have := V.int.inj q; omega))]
        exact iteT (failE _ sc fun n e q => l2 (by cases q; rfl))
      rw [decide_eq_true (show V.int (es.length : Nat) = V.int 2 by rw [l2]; rfl)]
      obtain ⟨dn, de, rfl⟩ := len2 l2
      obtain ⟨vn, en, hn2⟩ := tb.get 0 rfl
      obtain ⟨ve, ee, he2⟩ := tb.get 1 rfl
      have wx : wt dn < 16000 ∧ wt de < 16000 ∧ de.depth < 60 := by
        have h1 := wtA_mem mx
        have h2 := Exq.depth_mem mx
        rw [depth_tup] at h2
        have h3 := Exq.depth_mem (xs := [dn, de]) (x := de) (by simp)
        have h4 : (PyData.tuple ps).depth = PyData.depthAll ps + 1 := rfl
        have h5 := dd.2.1
        simp only [wt, wtA] at h1 wd
        omega
      have ascX := asc_mem ascP mx
      refine iteF ⟨_, rfl, b, ys, _, vn, rfl, rfl, tb.at_, en, vn, dn, rfl, hn2, wt_str (by omega), asc_mem ascX (by simp), fun H5 s5 => ⟨_, rfl, ?_⟩⟩
      have sc5 := sc.trans s5
      cases cn : nmD dn with
      | false =>
        refine iteT (fail _ sc5 ?_)
        by_cases q : ∃ s, dn = .str s
        · obtain ⟨s, rfl⟩ := q
          show (isNm s && _) = false
          rw [show isNm s = false from cn, Bool.false_and]
        · exact lawL_else fun n e z => q ⟨n, by cases z; rfl⟩
      | true =>
      obtain ⟨nm, rfl, isn⟩ := nmD_str cn
      cases hn2
      have spN : lawL (strsD ns) ahead (.tuple [.str nm, de] :: ps.drop (i + 1)) db = (exD de && (!decide (nm ∈ ahead) && (fitB (strsD ns) ahead de && lawL (strsD ns) (ahead ++ [nm]) (ps.drop (i + 1)) db))) := by
        show (isNm nm && _) = _
        rw [isn, Bool.true_and]
      rw [spN] at sp fail
      have tb5 := tb.same s5
      refine iteF ⟨_, rfl, b, ys, _, ve, rfl, rfl, tb5.at_, ee, ve, de, rfl, dxSame s5 _ _ he2, asc_mem ascX (by simp), by omega, by omega, fun H6 s6 => ⟨_, rfl, ?_⟩⟩
      have sc6 := sc5.trans s6
      have tb6 := tb5.same s6
      cases ce : exD de with
      | false => exact iteT (fail _ sc6 (by rw [ce, Bool.false_and]))
      | true =>
      rw [ce] at sp fail
      simp only [Bool.true_and] at sp fail
      have A6 := s6 _ _ (s5 _ _ hAc)
      refine iteF ⟨_, rfl, b, ys, _, _, rfl, rfl, tb6.at_, en, _, rfl, A, _, rfl, .inl (SqL.of A6), rfl, flat_strs _, _, rfl, ?_⟩
      rw [if_neg Bool.false_ne_true, inV_strs]
      cases ca : decide (nm ∈ ahead) with
      | true => exact iteT (fail _ sc6 (by rw [ca]; rfl))
      | false =>
      rw [ca] at sp fail
      simp only [Bool.not_false, Bool.true_and] at sp fail
      have t6 := t.same sc6
      refine iteF ⟨_, rfl, b, ys, _, ve, rfl, rfl, tb6.at_, ee, _, rfl, a, xs, _, _, rfl, rfl, t6.at_, e1, _, rfl, ve, de, an, A, strsD ns, ahead, rfl, dxSame (s5.trans s6) _ _ he2, ce, by omega, by omega, by rw [← exn]; exact (tn.same sc6).at_, SqL.of A6, fun H7 s7 => ⟨_, rfl, ?_⟩⟩
      have sc7 := sc6.trans s7
      cases cf : fitB (strsD ns) ahead de with
      | false => exact iteT (fail _ sc7 (by rw [cf, Bool.false_and]))
      | true =>
      rw [cf, Bool.true_and] at sp
      refine iteF ?_
      have tb7 := tb6.same s7
      have A7 := s7 _ _ A6
      refine ⟨_, rfl, _, rfl, b, ys, _, _, rfl, rfl, tb7.at_, en, by show 1 ≤ sizeLine; decide, fun l1 hl1 => ?_⟩
      have s8 : Same H7 (upd H7 l1 (.lst [.str nm])) := snew hl1
      refine ⟨_, _, _, _, rfl, rfl, s8 _ _ A7, upd_same, ?_, fun l2 hl2 => ?_⟩
      · rw [lp] at hi
        rw [List.length_map, sizeLine_eq]
        simp only [List.length_cons, List.length_nil]
        omega
      refine ⟨ahead ++ [nm], l2, _, rfl, ?_, ?_, (sc7.trans s8).trans (snew hl2), sp⟩
      · rw [upd_same, List.map_append]
        rfl
      · rw [List.length_append, List.length_singleton]
        omega
    · rintro σ Hc ⟨ahead, A, v2, rfl, hAc, al, sc, sp⟩
      rw [lp, List.drop_length] at sp
      have key2 : ∀ H', Same H H' → Q (.bl (exD db && fitB (strsD ns) ahead db)) H' := fun H' s => by
        have := key H' s
        rw [sp] at this
        exact this
      have tc := t.same sc
      refine ⟨_, rfl, a, xs, _, v3, rfl, rfl, tc.at_, e3, v3, db, rfl, dxSame sc _ _ h3, ascB, by omega, by omega, fun H5 s5 => ⟨_, rfl, ?_⟩⟩
      have sc5 := sc.trans s5
      cases ce : exD db with
      | false =>
        have := key2 H5 sc5
        rw [ce, Bool.false_and] at this
        exact iteF this
      | true =>
        have t5 := t.same sc5
        refine iteT ⟨_, rfl, a, xs, _, v3, rfl, rfl, t5.at_, e3, _, rfl, a, xs, _, _, rfl, rfl, t5.at_, e1, _, rfl, v3, db, an, A, strsD ns, ahead, rfl, dxSame sc5 _ _ h3, ce, by omega, by omega, by rw [← exn]; exact (tn.same sc5).at_, SqL.of (s5 _ _ hAc), fun H6 s6 => ?_⟩
        have := key2 H6 (sc5.trans s6)
        rw [ce, Bool.true_and] at this
        exact this
end
end Any
set_option Elab.async false
set_option linter.all false
set_option maxRecDepth 100000
set_option maxHeartbeats 4000000
/-! enumerate over a tuple. -/
namespace Any
open PySem PySem.Spec PyProof.Rows L2 RT
open AutoSeq1 (wpAny_loadPart')
abbrev tIt (t : Addr) : Obj := { cls := .type "tuple_iterator", data := .fields #[.ref t, .int 0 0] }
abbrev tEn (h : Heap) : Obj := { cls := .type "enumerate", data := .fields #[.none, .bool false, .ref h.objs.size, rawInt 0, .none, .none] }
abbrev tH (h : Heap) (t : Addr) : Heap := (h.push (tIt t)).push (tEn h)
theorem new_enumT (t : Addr) (its : Array Value) (m : Nat) (dd : Option Addr) (ss : Array (Option Value)) :
    Meets (Builtin.«enumerate.__new__» ⟨[.type "enumerate", .ref t], []⟩) fun _ R s => s.heap.get? t = some { cls := .type "tuple", dict := dd, data := .seq its m, slots := ss } ∧ R (.ok (.ret (.ref (s.heap.push (tIt t)).objs.size))) { s with heap := tH s.heap t } := by
  refine .of_wp fun prog w A R s both => ?_
  obtain ⟨hp, g, d, tk, os⟩ := s
  obtain ⟨there, fin⟩ := both
  have sub := sub_enumerate
  have isT : Heap.IsTuple (Shared.heap ⟨hp, g, d, tk, os⟩) t its := ⟨_, there, rfl, m, rfl⟩
  wp_walk using wpAny_loadPart' there
  refine wpAny_stack_any fun st => wpAny_pure ?_
  split
  · rename_i c _ _ _ _ _
    cases (c == Value.type "enumerate") <;> (wp_walk using wpAny_loadPart' there, wpAny_pyIter_tuple isT; exact ⟨_, rfl, fin⟩)
  · wp_walk using wpAny_loadPart' there, wpAny_pyIter_tuple isT
    exact ⟨_, rfl, fin⟩
theorem call_enumT {prog : Program} {w : World} {A : Around} {E : Value → Shared → Prop} {s : Shared} {t : Addr} {its : Array Value} {Q : Value → Shared → Prop} (isT : s.heap.IsTuple t its)
    (q : IsEnum (tH s.heap t) (s.heap.objs.size + 1) s.heap.objs.size 0 .none → (tH s.heap t).IsTupleIter s.heap.objs.size t 0 → Q (.ref (s.heap.objs.size + 1)) { s with heap := tH s.heap t }) :
    wpAny (model prog w) A (call (.type "enumerate") [.ref t]) Q E s := by
  obtain ⟨⟨c, dd, dt, ss⟩, there, hc, m, hd⟩ := isT
  cases (show c = .type "tuple" from hc)
  cases (show dt = .seq its m from hd)
  refine callType_new F.called_enumerate (by decide) (F.typeCall_enumerate_1 _) (F.newCall_enumerate_1 _) (fun obj => F.args_object_init_2 obj _) F.entry_enumerate_new (new_enumT t its m dd ss) ⟨there, ?_⟩
  have size1 : (s.heap.push (tIt t)).objs.size = s.heap.objs.size + 1 := Heap.size_push ..
  show _ ∧ _
  rw [size1]
  have en : IsEnum (tH s.heap t) (s.heap.objs.size + 1) s.heap.objs.size 0 .none := by
    have found := Heap.get?_push_size (s.heap.push (tIt t)) (o := tEn s.heap) rfl
    rw [size1] at found
    exact found
  exact ⟨⟨_, en, rfl⟩, q en ⟨_, Heap.get?_push_of_some _ (Heap.get?_push_size _ rfl), rfl, rfl⟩⟩
def Iet (K : PySem.W.Frag) (a : Addr) : It :=
  ⟨fun i H => ∃ xs : List V, SqT K H a xs ∧ i < xs.length, fun i H v H' => ∃ T y, v = .ref T ∧ H T = none ∧ H' = upd H T (.tup [.int (0 + (i : Nat)), y]) ∧ ∀ xs, SqT K H a xs → xs[i]? = some y, fun i H => ∃ xs : List V, SqT K H a xs ∧ i = xs.length⟩
theorem turn_enumT {P : Program} {w : World} {K : PySem.W.Frag} {elts : List Expr} {kk : Nat} {tpos : Pos} (a e it : Addr) (ne : e ≠ it) (nae : a ≠ e) (nai : a ≠ it) :
    Turn P w K (.Tuple elts kk tpos) (Iet K a) [e, it] e (fun i h => (∃ old, IsEnum h e it (0 + (i : Int)) old) ∧ h.IsTupleIter it a i) where
  mem := List.mem_cons_self ..
  obj := fun _ _ ⟨⟨_, p⟩, ⟨_, b, _, c⟩⟩ => enum_obj p b c
  keep := fun _ _ _ ⟨⟨old, p⟩, b⟩ same => ⟨⟨old, same e (List.mem_cons_self ..) _ p⟩, b.at fun o z => same it (List.mem_cons_of_mem _ (List.mem_singleton.mpr rfl)) o z⟩
  item := by
    intro X eP ew eK calm i pins s σ H E I own st go
    subst eP ew eK
    obtain ⟨xs, hq, lt⟩ := go
    obtain ⟨its, rv, li, _⟩ := I.tuple hq
    have len := rv.length
    have W := WalksT.enumFrom (prog := X.prog) (w := X.w) 0 (Draws.tuple (A := X.A.in1) (I.ok.hd calm) it a nai its.toArray) e ne (by simp [ne, Ne.symm nae]) (List.mem_cons_self ..)
    obtain ⟨⟨old, p⟩, b⟩ := id st
    obtain ⟨o, ho, _⟩ := id b
    refine wpAny_mono (enum_item (F := fun y => ∀ ys, SqT X.K H a ys → ys[i]? = some y) W I (by simp; omega) ⟨⟨old, p⟩, b, li⟩ (fun q hq => ⟨own q hq, enum_lt p ho q hq⟩) fun v hv => ?_) (fun r s1 ⟨u, er, z⟩ => ⟨u, er, wpAny_mono z (fun _ s2 ⟨x, H', J, rx, y, st2, fr⟩ => ⟨x, H', J, rx, y, ⟨st2.1, st2.2.1⟩, fr⟩) fun _ _ z => z⟩) fun _ _ z => z
    have hx : xs[i]? = some xs[i] := List.getElem?_eq_getElem lt
    obtain ⟨u, hu, ru⟩ := rv.get hx
    have ev : its[i]? = some v := by simpa using hv
    cases hu.symm.trans ev
    exact ⟨xs[i], ru, fun ys hy => by rw [I.tuple_inj hy hq, hx]⟩
  done := by
    intro X eP ew eK calm i pins s σ H E I own st stop
    subst eP ew eK
    obtain ⟨xs, hq, ei⟩ := stop
    obtain ⟨its, rv, li, _⟩ := I.tuple hq
    have len := rv.length
    have W := WalksT.enumFrom (prog := X.prog) (w := X.w) 0 (Draws.tuple (A := X.A.in1) (I.ok.hd calm) it a nai its.toArray) e ne (by simp [ne, Ne.symm nae]) (List.mem_cons_self ..)
    have en : i = its.toArray.size := by simp; omega
    rw [en] at st
    exact enum_done W I ⟨st.1, st.2, li⟩ own
  self := fun _ _ _ _ _ ⟨⟨_, p⟩, _⟩ q => wpAny_pyIter_enum p q
def iEnT (K : PySem.W.Frag) (ta : TA) : TI := fun σ H R => ta σ H fun vs H1 => ∃ a xs, vs = [.ref a] ∧ SqT K H1 a xs ∧ R (Iet K a) H1
theorem pi_enumT {X : Cx} {e : Expr} {ta : TA} {p pos tpos : Pos} {elts : List Expr} {kk : Nat} (hg : Gl X "enumerate") (hm : X.mg "enumerate" = none) (ha : PA X [e] ta) (one : starEach [e] X.env = [(false, eval e X.env)] := by rfl) :
    PI X (.Tuple elts kk tpos) (.Call (.Name "enumerate" p) [e] [] pos) (iEnT X.K ta) :=
  ⟨fun pins s σ H R I h => Call_ (ld_blt I hg hm boot_enumerate (PyProof.Rows.callWith_type1 (thn (ha.run pos pins s σ H _ I h) fun us s1 ⟨vs, H1, I1, rv, a, xs, ev, hq, q⟩ => by
    subst ev
    obtain ⟨u, rfl, eu⟩ := vals1 rv
    cases (show u = Value.ref a from eu)
    obtain ⟨its, _, li, _⟩ := I1.tuple hq
    obtain ⟨o, ho, _⟩ := id li
    have la := Heap.lt_size ho
    exact call_enumT li fun p b => wpAny_pyIter_enum p (enum_laid I1 (fun _ _ x => Heap.get?_push_of_some _ (Heap.get?_push_of_some _ x)) (turn_enumT a _ _ (Nat.succ_ne_self _) (Nat.ne_of_lt (Nat.lt_succ_of_lt la)) (Nat.ne_of_lt la)) ⟨⟨.none, p⟩, b⟩ q)) one rfl))⟩
theorem walk_enumT {K : PySem.W.Frag} {a : Addr} {xs : List V} : Walk (Iet K a) xs.length (fun H => SqT K H a xs) (YPair (fun i => some (.int (i : Nat))) (fun i => xs[i]?)) :=
  ⟨fun _ _ lt q => ⟨xs, q, lt⟩, fun _ q => ⟨xs, q, rfl⟩, fun i _ _ _ _ q ⟨T, y, ev, hT, eH, at_⟩ => ⟨T, .int (i : Nat), y, ev, hT, by rw [eH, Int.zero_add], rfl, at_ xs q⟩⟩
end Any
set_option Elab.async false
set_option linter.all false
set_option maxRecDepth 100000
set_option maxHeartbeats 4000000
/-! The law's own places. -/
namespace Any
open PySem PySem.Spec PyProof.Rows L2 RT
open He (ga ma)
/-! ### the mathematics -/
def pl (kd : Str) (p : List Nat) (d : PyData) : List PyData := ((nodesL p d).filter fun q => openE kd q.2).map fun q => pathD q.1
theorem pl_node (kd : Str) (p : List Nat) (h : Str) (r : List PyData) : pl kd p (.tuple (.str h :: r)) = (if openB kd h r = true then [pathD p] else []) ++ (kidsAt h).flatMap fun i => pl kd (p ++ [i]) ((PyData.str h :: r).getD i .none) := by
  unfold pl
  rw [nodesL_node, List.filter_cons, List.filter_flatMap]
  have : openE kd (.tuple (.str h :: r)) = openB kd h r := rfl
  cases c : openB kd h r with
  | true =>
    rw [if_pos (by rw [this, c]), if_pos rfl, List.map_cons, List.map_flatMap]
    rfl
  | false =>
    rw [if_neg (by rw [this, c]; exact Bool.false_ne_true), if_neg Bool.false_ne_true, List.map_flatMap]
    rfl
theorem below_snoc (i : Nat) : ∀ l : List Nat, l.Pairwise (· < ·) → l.filter (fun j => decide (j < i + 1)) = l.filter (fun j => decide (j < i)) ++ (if i ∈ l then [i] else [])
  | [], _ => rfl
  | j :: l, h => by
    obtain ⟨h1, h2⟩ := List.pairwise_cons.mp h
    have ih := below_snoc i l h2
    by_cases c : j < i
    · rw [List.filter_cons, if_pos (decide_eq_true (by omega)), List.filter_cons, if_pos (decide_eq_true c), ih]
      have : (i ∈ j :: l) ↔ i ∈ l := by
        rw [List.mem_cons]
        exact ⟨fun q => q.resolve_left (by omega), .inr⟩
      simp only [this]
      rfl
    · have big : ∀ k ∈ l, ¬ k < i + 1 := fun k hk => by
        have := h1 k hk
        omega
      have e0 : l.filter (fun j => decide (j < i + 1)) = [] := List.filter_eq_nil_iff.mpr fun k hk => by simpa using big k hk
      have e1 : l.filter (fun j => decide (j < i)) = [] := List.filter_eq_nil_iff.mpr fun k hk => by
        have := big k hk
        simp
        omega
      have nm : i ∉ l := fun q => big i q (by omega)
      by_cases e : j = i
      · subst e
        rw [List.filter_cons, if_pos (decide_eq_true (by omega)), List.filter_cons, if_neg (by simp), e0, e1, if_pos (List.mem_cons_self ..)]
        rfl
      · rw [List.filter_cons, if_neg (by simp; omega), List.filter_cons, if_neg (by simp; omega), e0, e1, if_neg (fun q => (List.mem_cons.mp q).elim (fun z => e z.symm) nm)]
        rfl
theorem kidsAt_asc (h : Str) : (kidsAt h).Pairwise (· < ·) := by
  by_cases m : h ∈ chiKeys
  · have : ∀ h ∈ chiKeys, (kidsAt h).Pairwise (· < ·) := by decide +kernel
    exact this h m
  · rw [kids_none m]
    exact List.Pairwise.nil
theorem filt_le {α β : Type} (p : α → Bool) (f : α → List β) : ∀ l : List α, ((l.filter p).flatMap f).length ≤ (l.flatMap f).length
  | [] => Nat.le_refl _
  | x :: l => by
    have := filt_le p f l
    rw [List.filter_cons, List.flatMap_cons, List.length_append]
    split
    · rw [List.flatMap_cons, List.length_append]
      omega
    · omega
def hereB (kd : Str) (h : Str) (r : List PyData) : Bool :=
  if kd = "order" then decide (h ∈ Exq.opsN) && decide (r.length = 2) else if kd = "walk" then decide (h = "each") && decide (r.length = 4) else false
theorem pl_len {kd : Str} {p : List Nat} {d : PyData} (h : exD d = true) : (pl kd p d).length ≤ wt d := by
  unfold pl
  rw [List.length_map]
  have h1 := List.length_filter_le (fun q => openE kd q.2) (nodesL p d)
  rw [nodesL_len h] at h1
  exact Nat.le_trans h1 (size_wt d)
theorem nl_pl {kd : Str} {p : List Nat} {d : PyData} : nlA (pl kd p d) = true := by
  rw [nlA_all, List.all_eq_true]
  intro x hx
  obtain ⟨q, _, rfl⟩ := List.mem_map.mp hx
  exact nl_path q.1

def spBodies (K : PySem.W.Frag) : Sp := fun vs H Q _ => ∃ v w0 ns ps body, vs = [v] ∧ Dx K H v (.tuple [w0, ns, .tuple ps, body]) ∧ ps.length ≤ 1000 ∧ ∀ l xs H', H l = none → Same H H' → H' l = some (.lst xs) → DxAll K H' xs (partsL ps body) → Q (.ref l) H'
def spPlIn (K : PySem.W.Frag) (n : Nat) : Sp := fun vs H Q _ => ∃ v d kd pa pxs p, vs = [v, .str kd, .ref pa] ∧ kd ∈ kinds3 ∧ Dx K H v d ∧ exD d = true ∧ wt d ≤ 100000 ∧ d.depth < n ∧ TupD K H pa pxs (p.map fun (i : Nat) => PyData.int i) ∧ p.length + d.depth ≤ 1000 ∧
  ∀ l xs H', H l = none → Same H H' → H' l = some (.lst xs) → DxAll K H' xs (pl kd p d) → Q (.ref l) H'
section
variable {P : Program} {w : World} {K : PySem.W.Frag} {mg : Str → Option Value} {base : Heap}
theorem scLawBodies : FnScope ["program"] ["program"] (defScope sLawBodies) := ⟨rfl, rfl, rfl, by decide +kernel, rfl, by decide +kernel, by decide +kernel⟩
theorem hLawBodies (D : DS K mg) (T : TF mg) : Has P w K mg base CX0 "_law_bodies" sLawBodies ["program"] 1 (spBodies K) := by
  refine Has.mk0 D.aLawBodies scLawBodies (fun _ _ _ _ _ _ us hl => match us, hl with | [_], _ => rfl) (fun vs H Q E h => ?_) (fun cdv A outer s H vs Q E hr h => ?_)
  · obtain ⟨v, w0, ns, ps, body, rfl, _⟩ := h
    rfl
  · obtain ⟨v, w0, ns, ps, body, rfl, hd, hps, k⟩ := h
    refine ⟨_, (pss_one (ps_ret (pe_op op_cat (pe_callTy call_list_of (by rfl) T.list (by decide +kernel) (pa_cons (pe_ix ix_tup (pv 0) pe_int (fun _ _ => rfl)) pa_nil)) (pe_lst (pa_cons (pe_tup (pa_cons pe_str (pa_cons (pe_ix ix_tup (pv 0) pe_int (fun _ _ => rfl)) pa_nil))) pa_nil))))), ?_⟩
    obtain ⟨a, xs, rfl, t⟩ := hd.tupD
    obtain ⟨v2, e2, h2⟩ := t.get 2 rfl
    obtain ⟨v3, e3, h3⟩ := t.get 3 rfl
    obtain ⟨b, ys, rfl, tb⟩ := h2.tupD
    refine ⟨_, rfl, a, xs, _, _, rfl, rfl, t.at_, e2, b, ys, rfl, .inr tb.at_, fun l1 hl1 => ?_⟩
    have s1 : Same H (upd H l1 (.lst ys)) := snew hl1
    have b1 : (upd H l1 (.lst ys)) l1 = some (.lst ys) := upd_same
    generalize upd H l1 (.lst ys) = H1 at s1 b1 ⊢
    refine ⟨_, rfl, a, xs, _, _, rfl, rfl, (t.same s1).at_, e3, by show 2 ≤ sizeLine; decide, fun p1 hp1 => ⟨by show 1 ≤ sizeLine; decide, fun l2 hl2 => ?_⟩⟩
    have t1 : TupD K (upd H1 p1 (.tup [.str "body", v3])) p1 [.str "body", v3] [.str "body", body] := ⟨SqT.of upd_same, .cons (.str "body") (.cons (dxSame (s1.trans (snew hp1)) _ _ h3) .nil)⟩
    have s2 : Same H1 (upd H1 p1 (.tup [.str "body", v3])) := snew hp1
    generalize upd H1 p1 (.tup [.str "body", v3]) = H2 at s2 t1 hl2 ⊢
    have s3 : Same H2 (upd H2 l2 (.lst [.ref p1])) := snew hl2
    refine ⟨l1, l2, ys, [.ref p1], rfl, rfl, s3 _ _ (s2 _ _ b1), upd_same, ?_, fun l3 hl3 => ?_⟩
    · rw [tb.len, sizeLine_eq]
      simp only [List.length_cons, List.length_nil]
      omega
    have s4 := ((s1.trans s2).trans s3)
    have s5 : Same (upd H2 l2 (.lst [.ref p1])) (upd (upd H2 l2 (.lst [.ref p1])) l3 (.lst (ys ++ [.ref p1]))) := snew hl3
    exact k l3 _ _ (s4.free hl3) (s4.trans s5) upd_same (DxAll.app (dxSameA (s4.trans s5) _ _ tb.all) (.cons (t1.same (s3.trans s5)).dx .nil))
theorem scLawPlacesIn : FnScope ["e", "kind", "path", "found", "is_here", "k", "inner"] ["e", "kind", "path"] (defScope sLawPlacesIn) := ⟨rfl, rfl, rfl, by decide +kernel, rfl, by decide +kernel, by decide +kernel⟩
theorem hLawPlacesIn (D : DS K mg) (T : TF mg) : ∀ n : Nat, Has P w K mg base CX0 "_law_places_in" sLawPlacesIn ["e", "kind", "path"] (n + 2) (spPlIn K n) := by
  have hLawOps : Has P w K mg base CX0 _ _ _ 1 _ := hLawOps D
  intro n
  induction n with
  | zero =>
    exact Has.mk0 D.aLawPlacesIn scLawPlacesIn (fun _ _ _ _ _ _ us hl => match us, hl with | [_, _, _], _ => rfl) (fun vs H Q E ⟨_, _, _, _, _, _, _, _, _, _, _, h, _⟩ => absurd h (Nat.not_lt_zero _)) (fun cdv A outer s H vs Q E hr ⟨_, _, _, _, _, _, _, _, _, _, _, h, _⟩ => absurd h (Nat.not_lt_zero _))
  | succ n ih =>
  have hLawPlacesIn : Has P w K mg base CX0 _ _ _ (n + 2) _ := ih
  refine Has.mk0 D.aLawPlacesIn scLawPlacesIn (fun _ _ _ _ _ _ us hl => match us, hl with | [_, _, _], _ => rfl) (fun vs H Q E h => ?_) (fun cdv A outer s H vs Q E hr h => ?_)
  · obtain ⟨v, d, kd, pa, pxs, p, rfl, _⟩ := h
    rfl
  · obtain ⟨v, d, kd, pa, pxs, p, rfl, hk, hd, hex, hw, hdep, tp, hpl, k⟩ := h
    refine ⟨_, (pss_cons (ps_set (i := 3) scLawPlacesIn.nd rfl (Or.inl rfl) (pe_lst pa_nil))
      (pss_cons (ps_set (i := 4) scLawPlacesIn.nd rfl (Or.inl rfl) (pe_or (pe_and (pe_cmpR op_eq (pv 1) pe_str (nomark _)) (pe_and (pe_cmpR op_in_seq (pe_ix ix_tup (pv 0) pe_int (fun _ _ => rfl)) (pe_fn0 hLawOps (hr.mono (by omega)) (by rfl)) (by rfl)) (pe_one (pe_cmpR op_eq (pe_callB call_len_seq (by rfl) T.len PySem.boot_len (pa_cons (pv 0) pa_nil)) pe_int (nomark _))))) (pe_one (pe_and (pe_cmpR op_eq (pv 1) pe_str (nomark _)) (pe_and (pe_cmpR op_eq (pe_ix ix_tup (pv 0) pe_int (fun _ _ => rfl)) pe_str (nomark _)) (pe_one (pe_cmpR op_eq (pe_callB call_len_seq (by rfl) T.len PySem.boot_len (pa_cons (pv 0) pa_nil)) pe_int (nomark _))))))))
      (pss_cons (ps_if (PW.pt (pw_or (pt_val (pv 4)) (pw_or1 (PW.pt (pw_and (pt_cmpR op_eq (pv 1) pe_str (nomark _)) (pw_and (pt_cmpR op_eq (pe_ix ix_tup (pv 0) pe_int (fun _ _ => rfl)) pe_str (nomark _)) (pw_and1 (pt_cmpR op_eq (pe_callB call_len_seq (by rfl) T.len PySem.boot_len (pa_cons (pv 0) pa_nil)) pe_int (nomark _)))))))))
        (pss_one (ps_expr (pe_bm PySem.F.plainAttrs_list PySem.F.slot_list_append PySem.F.type_list_append mt_append (pv 3) (pa_cons (pv 2) pa_nil))))
        pss_nil)
      (pss_cons (ps_for PassesOwn.never rfl (pi_enumT (by rfl) T.enumerate (pa_cons (pv 0) pa_nil)) (pg_tup rfl (pgs_cons (pg_name (i := 5) scLawPlacesIn.nd rfl (Or.inl rfl)) (pgs_cons (pg_name (i := 6) scLawPlacesIn.nd rfl (Or.inl rfl)) pgs_nil)))
        (pss_one (ps_if (pt_val (pe_callB call_isi (by rfl) T.isinstance (by decide +kernel) (pa_cons (pv 6) (pa_cons (pe_bltn (v := .ty "tuple") (by rfl) T.tuple (by decide +kernel) rfl) pa_nil))))
          (pss_one (ps_set (i := 3) scLawPlacesIn.nd rfl (Or.inl rfl) (pe_op op_cat (pv 3) (pe_fn hLawPlacesIn (hr.mono (by omega)) (by rfl) (pa_cons (pv 6) (pa_cons (pv 1) (pa_cons (pe_op op_catA (pv 2) (pe_tup (pa_cons (pv 5) pa_nil))) pa_nil)))))))
          pss_nil)))
      (pss_one (ps_ret (pv 3))))))), ?_⟩
    obtain ⟨h, r, rfl, ok, kid⟩ := ex_node hex
    obtain ⟨a, xs, rfl, t⟩ := hd.tupD
    have lx : xs.length = r.length + 1 := by rw [t.len, List.length_cons]
    obtain ⟨v0, e0, h0⟩ := t.get 0 rfl
    cases h0
    refine ⟨by show 0 ≤ sizeLine; exact Nat.zero_le _, fun F hF => ?_⟩
    have s1 : Same H (upd H F (.lst [])) := snew hF
    have F1 : (upd H F (.lst [])) F = some (.lst []) := upd_same
    generalize upd H F (.lst []) = H1 at s1 F1 ⊢
    show tSeq _ _ _ ([some (.ref a), some (.str kd), some (.ref pa), some (.ref F), none, none, none] : L2.St) _
    have s1' := s1
    have t1 := t.same s1
    have lenE : ∀ m : Nat, decide (V.int (xs.length : Nat) = V.int ((m + 1 : Nat) : Int)) = decide (r.length = m) := fun m => by
      rw [lx, decide_eq_decide]
      exact ⟨fun z => by have := V.int.inj z; omega, fun z => by rw [z]⟩
    have e3 : decide (V.int (xs.length : Nat) = V.int 3) = decide (r.length = 2) := lenE 2
    have e5 : decide (V.int (xs.length : Nat) = V.int 5) = decide (r.length = 4) := lenE 4
    have e2 : decide (V.int (xs.length : Nat) = V.int 2) = decide (r.length = 1) := lenE 1
    refine (fun (rest : ∀ H2, Same H1 H2 → (?G : Hp → Prop) H2) => ?first) ?second
    case first =>
      unfold kinds3 at hk
      simp only [List.mem_cons, List.not_mem_nil, or_false] at hk
      have ow : decide (V.str "order" = V.str "walk") = false := by decide +kernel
      have wo : decide (V.str "walk" = V.str "order") = false := by decide +kernel
      have fo : decide (V.str "fill" = V.str "order") = false := by decide +kernel
      have fw : decide (V.str "fill" = V.str "walk") = false := by decide +kernel
      have fin : ∀ (H2 : Hp) (b : Bool), Same H1 H2 → b = hereB kd h r → V.bl b = V.bl (hereB kd h r) := fun _ _ _ e => by rw [e]
      rcases hk with ek | ek | ek
      · refine ⟨_, rfl, rfl, _, rfl, ?_⟩
        rw [show decide (V.str kd = V.str "order") = true by rw [ek]; decide +kernel]
        refine iteT ⟨_, rfl, a, _, _, _, rfl, rfl, t1.at_, e0, rfl, fun l H2 hl s2 h2 => ⟨l, _, rfl, .inl (SqL.of h2), rfl, flat_strs _, _, rfl, ?_⟩⟩
        rw [if_neg Bool.false_ne_true, inV_strs]
        have hb : hereB kd h r = (decide (h ∈ Exq.opsN) && decide (r.length = 2)) := by unfold hereB; rw [if_pos ek]
        cases c1 : decide (h ∈ Exq.opsN) with
        | false =>
          refine iteF ⟨_, rfl, iteF ⟨_, rfl, rfl, _, rfl, ?_⟩⟩
          rw [show decide (V.str kd = V.str "walk") = false by rw [ek]; decide +kernel]
          refine iteF ?_
          rw [fin H2 false s2 (by rw [hb, c1]; rfl)]
          exact rest H2 s2
        | true =>
          refine iteT ⟨_, rfl, a, _, rfl, .inr (t1.same s2).at_, rfl, ?_⟩
          rw [e3]
          refine ⟨_, rfl, ?_⟩
          cases c2 : decide (r.length = 2) with
          | true =>
            refine iteT ?_
            rw [fin H2 true s2 (by rw [hb, c1, c2]; rfl)]
            exact rest H2 s2
          | false =>
            refine iteF ⟨_, rfl, rfl, _, rfl, ?_⟩
            rw [show decide (V.str kd = V.str "walk") = false by rw [ek]; decide +kernel]
            refine iteF ?_
            rw [fin H2 false s2 (by rw [hb, c1, c2]; rfl)]
            exact rest H2 s2
      · have hb : hereB kd h r = (decide (h = "each") && decide (r.length = 4)) := by
          unfold hereB
          rw [ek, if_neg (by decide +kernel), if_pos rfl]
        refine ⟨_, rfl, rfl, _, rfl, ?_⟩
        rw [show decide (V.str kd = V.str "order") = false by rw [ek]; decide +kernel]
        refine iteF ⟨_, rfl, iteF ⟨_, rfl, rfl, _, rfl, ?_⟩⟩
        rw [show decide (V.str kd = V.str "walk") = true by rw [ek]; decide +kernel]
        refine iteT ⟨_, rfl, a, _, _, _, rfl, rfl, t1.at_, e0, rfl, _, rfl, ?_⟩
        rw [show decide (V.str h = V.str "each") = decide (h = "each") by rw [decide_eq_decide]; exact ⟨fun z => V.str.inj z, fun z => by rw [z]⟩]
        cases c1 : decide (h = "each") with
        | false =>
          refine iteF ?_
          rw [fin H1 false rsame (by rw [hb, c1]; rfl)]
          exact rest H1 rsame
        | true =>
          refine iteT ⟨_, rfl, a, _, rfl, .inr t1.at_, rfl, ?_⟩
          rw [e5, show decide (r.length = 4) = hereB kd h r by rw [hb, c1]; rfl]
          exact rest H1 rsame
      · have hb : hereB kd h r = false := by
          unfold hereB
          rw [ek, if_neg (by decide +kernel), if_neg (by decide +kernel)]
        refine ⟨_, rfl, rfl, _, rfl, ?_⟩
        rw [show decide (V.str kd = V.str "order") = false by rw [ek]; decide +kernel]
        refine iteF ⟨_, rfl, iteF ⟨_, rfl, rfl, _, rfl, ?_⟩⟩
        rw [show decide (V.str kd = V.str "walk") = false by rw [ek]; decide +kernel]
        refine iteF ?_
        rw [fin H1 false rsame hb.symm]
        exact rest H1 rsame
    case second =>
    intro H2 s2
    have F2 := s2 _ _ F1
    have t2 := t1.same s2
    have opn : openB kd h r = (hereB kd h r || (decide (kd = "fill") && (decide (h = "name") && decide (r.length = 1)))) := by
      unfold kinds3 at hk
      simp only [List.mem_cons, List.not_mem_nil, or_false] at hk
      unfold openB hereB
      rcases hk with ek | ek | ek
      · rw [if_pos ek, if_pos ek, ek, show decide (("order" : Str) = "fill") = false by decide +kernel, Bool.false_and, Bool.or_false]
      · rw [ek, if_neg (by decide +kernel), if_pos rfl, if_neg (by decide +kernel), if_pos rfl, show decide (("walk" : Str) = "fill") = false by decide +kernel, Bool.false_and, Bool.or_false]
      · rw [ek, if_neg (by decide +kernel), if_neg (by decide +kernel), if_neg (by decide +kernel), if_neg (by decide +kernel), decide_eq_true rfl]
        rfl
    show tSeq _ _ _ ([some (.ref a), some (.str kd), some (.ref pa), some (.ref F), some (.bl (hereB kd h r)), none, none] : L2.St) _
    refine (fun (rest : ∀ H3, (∃ fv, Same H H3 ∧ H3 F = some (.lst fv) ∧ DxAll K H3 fv (if openB kd h r = true then [pathD p] else [])) → (?G2 : Hp → Prop) H3) => ?first2) ?second2
    case first2 =>
      have s02 := s1.trans s2
      have no : openB kd h r = false → ∃ fv, Same H H2 ∧ H2 F = some (.lst fv) ∧ DxAll K H2 fv (if openB kd h r = true then [pathD p] else []) := fun e => ⟨[], s02, F2, by rw [e, if_neg Bool.false_ne_true]; exact .nil⟩
      have yes : openB kd h r = true → ∃ fv, Same H (upd H2 F (.lst ([] ++ [.ref pa]))) ∧ (upd H2 F (.lst ([] ++ [.ref pa]))) F = some (.lst fv) ∧ DxAll K (upd H2 F (.lst ([] ++ [.ref pa]))) fv (if openB kd h r = true then [pathD p] else []) := fun e => by
        refine ⟨[.ref pa], upd_same_new s02 hF, upd_same, ?_⟩
        rw [e, if_pos rfl]
        exact .cons (dxSame (upd_same_new s02 hF) _ _ tp.dx) .nil
      have len0 : ([] : List V).length < sizeLine := by rw [sizeLine_eq]; decide
      obtain ⟨H3, eH⟩ : ∃ H3, H3 = upd H2 F (.lst ([] ++ [.ref pa])) := ⟨_, rfl⟩
      rw [← eH] at yes
      refine ⟨_, rfl, _, rfl, ite2 (fun c0 => ?_) (fun c0 => ?_)⟩
      · refine ⟨_, rfl, .inl ⟨rfl, _, SqL.of F2⟩, _, rfl, F, [], _, rfl, rfl, F2, len0, ?_⟩
        rw [← eH]
        exact rest H3 (yes (by rw [opn, c0]; rfl))
      · have c0' : hereB kd h r = false := Bool.eq_false_iff.mpr c0
        refine ⟨_, rfl, rfl, _, rfl, ite2 (fun c1 => ?_) (fun c1 => ?_)⟩
        · have k1 : decide (kd = "fill") = true := decide_eq_true (V.str.inj (of_decide_eq_true c1))
          refine ⟨_, rfl, a, _, _, _, rfl, rfl, t2.at_, e0, rfl, _, rfl, ite2 (fun c2 => ?_) (fun c2 => ?_)⟩
          · have k2 : decide (h = "name") = true := decide_eq_true (V.str.inj (of_decide_eq_true c2))
            refine ⟨_, rfl, a, _, rfl, .inr t2.at_, rfl, _, rfl, ?_⟩
            rw [e2]
            cases c3 : decide (r.length = 1) with
            | true =>
              refine iteT ⟨_, rfl, .inl ⟨rfl, _, SqL.of F2⟩, _, rfl, F, [], _, rfl, rfl, F2, len0, ?_⟩
              rw [← eH]
              exact rest H3 (yes (by rw [opn, k1, k2, c3]; simp))
            | false =>
              refine iteF ?_
              exact rest H2 (no (by rw [opn, c0', k1, k2, c3]; rfl))
          · have k2 : decide (h = "name") = false := decide_eq_false fun q => c2 (decide_eq_true (by rw [q]))
            exact rest H2 (no (by rw [opn, c0', k1, k2]; rfl))
        · have k1 : decide (kd = "fill") = false := decide_eq_false fun q => c1 (decide_eq_true (by rw [q]))
          exact rest H2 (no (by rw [opn, c0', k1]; rfl))
    case second2 =>
    rintro H3 ⟨fv, s3, F3, f3⟩
    have t3 := t.same s3
    have nodes : pl kd p (.tuple (.str h :: r)) = (if openB kd h r = true then [pathD p] else []) ++ (kidsAt h).flatMap fun i => pl kd (p ++ [i]) ((PyData.str h :: r).getD i .none) := pl_node kd p h r
    have lenA : (pl kd p (.tuple (.str h :: r))).length ≤ 100000 := Nat.le_trans (pl_len hex) hw
    have kidlt : ∀ i ∈ kidsAt h, i < xs.length := fun i hi => by rw [lx]; exact (kid i hi).1
    show tSeq _ _ _ ([some (.ref a), some (.str kd), some (.ref pa), some (.ref F), some (.bl (hereB kd h r)), none, none] : L2.St) _
    refine ⟨_, rfl, a, xs, rfl, t3.at_, for_it (walk_enumT (K := K) (a := a) (xs := xs)) (fun i σ Hc => ∃ (L : Addr) (gv : List V) (v5 v6 : Option V), σ = [some (.ref a), some (.str kd), some (.ref pa), some (.ref L), some (.bl (hereB kd h r)), v5, v6] ∧ Same H Hc ∧ H L = none ∧ Hc L = some (.lst gv) ∧
      DxAll K Hc gv ((if openB kd h r = true then [pathD p] else []) ++ ((kidsAt h).filter fun j => decide (j < i)).flatMap fun i => pl kd (p ++ [i]) ((PyData.str h :: r).getD i .none)))
      ⟨F, fv, none, none, rfl, s3, hF, F3, ?_⟩ (fun _ _ _ _ ⟨_, _, _, _, _, s, _⟩ => (t.same s).at_) ?_ ?_⟩
    · have : ((kidsAt h).filter fun j => decide (j < 0)) = [] := List.filter_eq_nil_iff.mpr fun j _ => by simp
      rw [this, List.flatMap_nil, List.append_nil]
      exact f3
    · rintro i y σ Hc Hc' hi ⟨L, gv, v5, v6, rfl, sc, hL, Lc, gA⟩ ⟨T, z, x, rfl, hT, rfl, hz, hx⟩
      cases Option.some.inj hz
      have sT : Same Hc (upd Hc T (.tup [.int (i : Nat), x])) := snew hT
      have scT := sc.trans sT
      refine ⟨T, _, rfl, SqT.of upd_same, rfl, _, _, rfl, _, _, rfl, rfl, ?_⟩
      have LT := sT _ _ Lc
      have gT := dxSameA sT _ _ gA
      clear hz
      generalize upd Hc T (.tup [.int (i : Nat), x]) = H4 at sT scT LT gT ⊢
      show tIfS _ _ _ _ ([some (.ref a), some (.str kd), some (.ref pa), some (.ref L), some (.bl (hereB kd h r)), some (.int (i : Nat)), some x] : L2.St) _
      obtain ⟨di, hdi, hxd⟩ := DxAll.atV (t.same scT).all hx
      refine ⟨_, rfl, _, _, _, _, _, rfl, .ty "tuple", hxd.ty, kit_ty (kit_tuple di), _, rfl, ?_⟩
      rw [isTup_ty]
      have asc2 := below_snoc i (kidsAt h) (kidsAt_asc h)
      by_cases m : i ∈ kidsAt h
      · have gd : (PyData.str h :: r).getD i .none = di := by rw [List.getD_eq_getElem?_getD, hdi]; rfl
        obtain ⟨li, ex⟩ := kid i m
        rw [gd] at ex
        have it : isTup di = true := by
          obtain ⟨x', r', e, _⟩ := ex_node ex
          have : di = .tuple (.str x' :: r') := e
          rw [this]
          rfl
        rw [it]
        have mdi := List.mem_of_getElem? hdi
        have wdi : wt di ≤ 100000 := by
          have := wtA_mem mdi
          simp only [wt] at hw
          omega
        have ddi := Exq.depth_mem mdi
        have dh := depth_tup (PyData.str h :: r)
        have hp4 := tp.same scT
        refine iteT ⟨_, rfl, _, rfl, _, rfl, _, rfl, _, rfl, by show 1 ≤ sizeLine; decide, fun q hq => ?_⟩
        have sq : Same H4 (upd H4 q (.tup [.int (i : Nat)])) := snew hq
        have tq : TupD K (upd H4 q (.tup [.int (i : Nat)])) q [.int (i : Nat)] [.int (i : Nat)] := ⟨SqT.of upd_same, .cons (.int (i : Nat)) .nil⟩
        refine cat_d (hp4.same sq) tq ?_ fun p2 zs H5 s5 t5 => ?_
        · rw [List.length_map]
          simp only [List.length_cons, List.length_nil]
          omega
        rw [path_snoc] at t5
        have sc5 := scT.trans (sq.trans s5)
        refine ⟨x, di, kd, p2, zs, p ++ [i], rfl, hk, dxSame (sq.trans s5) _ _ hxd, ex, wdi, by omega, t5, by rw [List.length_append, List.length_singleton]; omega, fun l us H6 hl s6 h6 hA6 => ?_⟩
        have sc6 := sc5.trans s6
        have g6 := dxSameA ((sq.trans s5).trans s6) _ _ gT
        have L6 := s6 _ _ (s5 _ _ (sq _ _ LT))
        have new : ((kidsAt h).filter fun j => decide (j < i + 1)).flatMap (fun i => pl kd (p ++ [i]) ((PyData.str h :: r).getD i .none)) = ((kidsAt h).filter fun j => decide (j < i)).flatMap (fun i => pl kd (p ++ [i]) ((PyData.str h :: r).getD i .none)) ++ pl kd (p ++ [i]) di := by
          rw [asc2, if_pos m, List.flatMap_append, List.flatMap_singleton, gd]
        have both := DxAll.app g6 hA6
        rw [List.append_assoc, ← new] at both
        refine ⟨L, l, gv, us, rfl, rfl, L6, h6, ?_, fun l2 hl2 => ?_⟩
        · have l1 := DxAll.len both
          have h1 : (((if openB kd h r = true then [pathD p] else []) ++ ((kidsAt h).filter fun j => decide (j < i + 1)).flatMap fun i => pl kd (p ++ [i]) ((PyData.str h :: r).getD i .none))).length ≤ (pl kd p (.tuple (.str h :: r))).length := by
            rw [nodes, List.length_append, List.length_append]
            have : (((kidsAt h).filter fun j => decide (j < i + 1)).flatMap fun i => pl kd (p ++ [i]) ((PyData.str h :: r).getD i .none)).length ≤ ((kidsAt h).flatMap fun i => pl kd (p ++ [i]) ((PyData.str h :: r).getD i .none)).length := filt_le _ _ _
            omega
          rw [List.length_append] at l1
          rw [sizeLine_eq]
          omega
        · have sl2 : Same H6 (upd H6 l2 (.lst (gv ++ us))) := snew hl2
          exact ⟨l2, gv ++ us, _, _, rfl, sc6.trans sl2, sc6.free hl2, upd_same, dxSameA sl2 _ _ both⟩
      · have it : isTup di = false := by
          rcases ex_item ok i di hdi m with ⟨s, rfl⟩ | ⟨s, rfl⟩ <;> rfl
        rw [it]
        refine iteF ⟨L, gv, _, _, rfl, scT, hL, LT, ?_⟩
        rw [asc2, if_neg m, List.append_nil]
        exact gT
    · rintro σ Hc ⟨L, gv, v5, v6, rfl, sc, hL, Lc, gA⟩
      have : ((kidsAt h).filter fun j => decide (j < xs.length)) = kidsAt h := List.filter_eq_self.mpr fun j hj => decide_eq_true (kidlt j hj)
      rw [this, ← nodes] at gA
      exact ⟨_, rfl, k L gv Hc hL sc Lc gA⟩
end
end Any
set_option Elab.async false
set_option linter.all false
set_option maxRecDepth 100000
set_option maxHeartbeats 4000000
/-! The law's own places of a program. -/
namespace Any
open PySem PySem.Spec PyProof.Rows L2 RT
open He (ga ma)
theorem plPart_pl (kd n : Str) (e : PyData) : plPart kd (.tuple [.str n, e]) = (pl kd [] e).map fun x => PyData.tuple [.str n, x] := by
  show (((nodesL [] e).filter _).map _).map _ = (((nodesL [] e).filter _).map _).map _
  rw [List.map_map, List.map_map]
  rfl
def spLPlaces (K : PySem.W.Frag) : Sp := fun vs H Q _ => ∃ v kd w0 ns ps body, vs = [v, .str kd] ∧ kd ∈ kinds3 ∧ Dx K H v (.tuple [w0, ns, .tuple ps, body]) ∧ partsOk (partsL ps body) ∧ (∀ x ∈ partsL ps body, ∀ n e, x = .tuple [.str n, e] → e.depth < 64) ∧ wtA (partsL ps body) ≤ 100000 ∧ ps.length ≤ 1000 ∧
  ∀ l xs H', H l = none → Same H H' → H' l = some (.lst xs) → DxAll K H' xs (plL kd (partsL ps body)) → Q (.ref l) H'
section
variable {P : Program} {w : World} {K : PySem.W.Frag} {mg : Str → Option Value} {base : Heap}
theorem scLawPlaces : FnScope ["program", "kind", "found", "name", "e", "path"] ["program", "kind"] (defScope sLawPlaces) := ⟨rfl, rfl, rfl, by decide +kernel, rfl, by decide +kernel, by decide +kernel⟩
theorem hLawPlaces (D : DS K mg) (T : TF mg) : Has P w K mg base CX0 "_law_places" sLawPlaces ["program", "kind"] 67 (spLPlaces K) := by
  have hLawBodies : Has P w K mg base CX0 _ _ _ 1 _ := hLawBodies D T
  have hLawPlacesIn : Has P w K mg base CX0 _ _ _ 66 _ := hLawPlacesIn D T 64
  refine Has.mk0 D.aLawPlaces scLawPlaces (fun _ _ _ _ _ _ us hl => match us, hl with | [_, _], _ => rfl) (fun vs H Q E h => ?_) (fun cdv A outer s H vs Q E hr h => ?_)
  · obtain ⟨v, kd, w0, ns, ps, body, rfl, _⟩ := h
    rfl
  · obtain ⟨v, kd, w0, ns, ps, body, rfl, hk, hd, ok, dp, hw, hps, k⟩ := h
    refine ⟨_, (pss_cons (ps_set (i := 2) scLawPlaces.nd rfl (Or.inl rfl) (pe_lst pa_nil))
      (pss_cons (ps_for PassesOwn.never rfl (pi_list (pe_fn hLawBodies (hr.mono (by decide)) (by rfl) (pa_cons (pv 0) pa_nil))) (pg_tup rfl (pgs_cons (pg_name (i := 3) scLawPlaces.nd rfl (Or.inr rfl)) (pgs_cons (pg_name (i := 4) scLawPlaces.nd rfl (Or.inl rfl)) pgs_nil)))
        (pss_one (ps_set (i := 2) scLawPlaces.nd rfl (Or.inl rfl) (pe_op op_cat (pv 2) (pe_lc (own := [("path", 5)]) (g := (gName 5)) rfl scLawPlaces.nd (pi_list (pe_fn hLawPlacesIn (hr.mono (by decide)) (by rfl) (pa_cons (pv 4) (pa_cons (pv 1) (pa_cons (pe_tup pa_nil) pa_nil))))) (blkOk_by (own := [("path", 5)]) (N := ["program", "kind", "found", "name", "e", "path"]) (sc := defScope sLawPlaces) (by decide +kernel)) (fun _ _ _ _ _ => (pg_name (i := 5) scLawPlaces.nd rfl (Or.inl rfl))) (fun _ _ _ _ _ => pts_nil) (fun _ _ _ _ _ => (pe_tup (pa_cons (pv 3) (pa_cons (pv 5) pa_nil)))))))))
      (pss_one (ps_ret (pv 2))))), ?_⟩
    refine ⟨by show 0 ≤ sizeLine; exact Nat.zero_le _, fun F hF => ?_⟩
    have s1 : Same H (upd H F (.lst [])) := snew hF
    have F1 : (upd H F (.lst [])) F = some (.lst []) := upd_same
    generalize upd H F (.lst []) = H1 at s1 F1 ⊢
    show tSeq _ _ _ ([some v, some (.str kd), some (.ref F), none, none, none] : L2.St) _
    have okE : ∀ x ∈ partsL ps body, ∃ n e, x = .tuple [.str n, e] ∧ exD e = true := fun x hx => by
      obtain ⟨n, e, h1, h2, _⟩ := ok x hx
      exact ⟨n, e, h1, h2⟩
    refine ⟨_, rfl, v, w0, ns, ps, body, rfl, dxSame s1 _ _ hd, hps, fun B xs H2 hB s2 hBl bA => ?_⟩
    have s02 := s1.trans s2
    have lx := DxAll.len bA
    refine ⟨B, rfl, ⟨_, SqL.of hBl⟩, for_it (walk_list (K := K) (a := B) (xs := xs)) (fun i σ Hc => ∃ (L : Addr) (gv : List V) (v3 v4 : Option V), σ = [some v, some (.str kd), some (.ref L), v3, v4, none] ∧ Same H2 Hc ∧ H L = none ∧ Hc L = some (.lst gv) ∧ DxAll K Hc gv (plL kd ((partsL ps body).take i)))
      ⟨F, [], none, none, rfl, rsame, hF, s2 _ _ F1, .nil⟩ (fun _ _ _ _ ⟨_, _, _, _, _, s, _⟩ => SqL.of (s _ _ hBl)) ?_ ?_⟩
    · rintro i y σ Hc Hc' hi ⟨L, gv, v3, v4, rfl, sc, hL, Lc, gA⟩ ⟨rfl, hy⟩
      obtain ⟨dx, hdx, hxd⟩ := DxAll.atV bA hy
      have mdx := List.mem_of_getElem? hdx
      obtain ⟨nm, e, rfl, ex, we, de⟩ := ok dx mdx
      have de64 := dp _ mdx nm e rfl
      obtain ⟨b, ys, rfl, tb⟩ := (dxSame sc _ _ hxd).tupD
      obtain ⟨vm, ve, rfl⟩ := len2 tb.len
      obtain ⟨hvm, hve⟩ : Dx K Hc' vm (.str nm) ∧ Dx K Hc' ve e := by
        cases tb.all with
        | cons a r => cases r with
          | cons b _ => exact ⟨a, b⟩
      cases hvm
      have tk : (partsL ps body).take (i + 1) = (partsL ps body).take i ++ [.tuple [.str nm, e]] := by
        rw [List.take_succ, hdx]
        rfl
      have small : (plL kd ((partsL ps body).take (i + 1))).length ≤ 100000 := by
        have h1 := plL_len (kd := kd) (ds := (partsL ps body).take (i + 1)) fun x m => okE x (List.mem_of_mem_take m)
        have h2 := wtA_app ((partsL ps body).take (i + 1)) ((partsL ps body).drop (i + 1))
        rw [List.take_append_drop] at h2
        omega
      have ap : plL kd ((partsL ps body).take (i + 1)) = plL kd ((partsL ps body).take i) ++ plPart kd (.tuple [.str nm, e]) := by
        rw [tk, plL, List.flatMap_append, List.flatMap_singleton]
        rfl
      refine ⟨b, _, rfl, tb.at_, rfl, _, _, rfl, _, _, rfl, rfl, ?_⟩
      refine ⟨_, rfl, _, rfl, _, rfl, by show 0 ≤ sizeLine; exact Nat.zero_le _, fun p0 hp0 => ?_⟩
      have s0 : Same Hc' (upd Hc' p0 (.tup [])) := snew hp0
      have t0 : TupD K (upd Hc' p0 (.tup [])) p0 [] (([] : List Nat).map fun (i : Nat) => PyData.int i) := ⟨SqT.of upd_same, .nil⟩
      refine ⟨ve, e, kd, p0, [], [], rfl, hk, dxSame s0 _ _ hve, ex, by omega, de64, t0, by simp only [List.length_nil]; omega, fun q zs H3 hq s3 hz hA => ⟨q, rfl, ⟨_, SqL.of hz⟩, fun Dn hDn => ?_⟩⟩
      replace s3 := s0.trans s3
      have len := DxAll.len hA
      refine lc_it (walk_list (K := K) (a := q) (xs := zs)) (fun j Hd => ∃ us, Same H3 Hd ∧ Hd Dn = some (.lst us) ∧ DxAll K Hd us (((pl kd [] e).take j).map fun x => PyData.tuple [.str nm, x])) ⟨[], snew hDn, upd_same, .nil⟩ (fun _ Hd _ ⟨_, q, _⟩ => q.seq (SqL.of hz)) ?_ ?_
      · rintro j y2 Hd Hd' hj ⟨us, q1, q2, q3⟩ ⟨rfl, hy2⟩
        obtain ⟨dn, hn, hyn⟩ := DxAll.atV hA hy2
        have tk2 : (pl kd [] e).take (j + 1) = (pl kd [] e).take j ++ [dn] := by
          rw [List.take_succ, hn]
          rfl
        refine ⟨rfl, yes_if ⟨_, rfl, _, rfl, by show 2 ≤ sizeLine; decide, fun t ht => ?_⟩⟩
        have st : Same Hd' (upd Hd' t (.tup [.str nm, y2])) := snew ht
        have tt : TupD K (upd Hd' t (.tup [.str nm, y2])) t [.str nm, y2] [.str nm, dn] := ⟨SqT.of upd_same, .cons (.str nm) (.cons (dxSame (q1.trans st) _ _ hyn) .nil)⟩
        have nlT : nl (.tuple [.str nm, dn]) = true := nl_tup' fun z hz => by
          simp only [List.mem_cons, List.not_mem_nil, or_false] at hz
          rcases hz with rfl | rfl
          · rfl
          · have := nl_pl (kd := kd) (p := []) (d := e)
            rw [nlA_all, List.all_eq_true] at this
            exact this _ (List.mem_of_getElem? hn)
        have nlU : nlA (((pl kd [] e).take j).map fun x => PyData.tuple [.str nm, x]) = true := by
          rw [nlA_all, List.all_eq_true]
          intro x hx
          obtain ⟨q, mq, rfl⟩ := List.mem_map.mp hx
          have := nl_pl (kd := kd) (p := []) (d := e)
          rw [nlA_all, List.all_eq_true] at this
          exact nl_tup' fun z hz => by
            simp only [List.mem_cons, List.not_mem_nil, or_false] at hz
            rcases hz with rfl | rfl
            · rfl
            · exact this _ (List.mem_of_mem_take mq)
        have T2 : Tst (upd Hd' t (.tup [.str nm, y2])) (upd (upd Hd' t (.tup [.str nm, y2])) Dn (.lst (us ++ [.ref t]))) := Tst.set (o := .lst us) (st _ _ q2) trivial
        refine ⟨us, st _ _ q2, ?_, us ++ [.ref t], upd_same_new (q1.trans st) hDn, upd_same, ?_⟩
        · have l1 := DxAll.len q3
          rw [List.length_map, List.length_take] at l1
          have l2 := pl_len (kd := kd) (p := []) ex
          rw [sizeLine_eq]
          omega
        · rw [tk2, List.map_append]
          exact DxAll.app (((Tst.of st).trans T2).dxA nlU q3) (.cons (T2.tupD nlT tt).dx .nil)
      · rintro Hd ⟨us, q1, q2, q3⟩
        rw [len, List.take_length, ← plPart_pl] at q3
        have s4 := s3.trans q1
        have both := DxAll.app (dxSameA s4 _ _ gA) q3
        rw [← ap] at both
        refine ⟨L, Dn, gv, us, rfl, rfl, s4 _ _ Lc, q2, ?_, fun l2 hl2 => ?_⟩
        · have l1 := DxAll.len both
          rw [List.length_append] at l1
          rw [sizeLine_eq]
          omega
        · have sl : Same Hd (upd Hd l2 (.lst (gv ++ us))) := snew hl2
          exact ⟨l2, gv ++ us, _, _, rfl, sc.trans (s4.trans sl), (s02.trans (sc.trans s4)).free hl2, upd_same, dxSameA sl _ _ both⟩
    · rintro σ Hc ⟨L, gv, v3, v4, rfl, sc, hL, Lc, gA⟩
      rw [lx, List.take_length] at gA
      exact ⟨_, rfl, k L gv Hc hL (s02.trans sc) Lc gA⟩
end
end Any
set_option Elab.async false
set_option linter.all false
set_option maxRecDepth 100000
set_option maxHeartbeats 4000000
/-! The law's paths into a thing; what they lead to; what is put there. -/
namespace Any
open PySem PySem.Spec PyProof.Rows L2 RT
open He (ga ma)
/-! ### the mathematics -/
/-- what a path leads to -/
def atD : PyData → List Nat → Option PyData
  | d, [] => some d
  | .tuple ds, i :: p => match ds[i]? with
    | some x => atD x p
    | none => none
  | _, _ :: _ => none
theorem atD_snoc : ∀ {p : List Nat} {d : PyData} {ds : List PyData} {i : Nat} {x : PyData}, atD d p = some (.tuple ds) → ds[i]? = some x → atD d (p ++ [i]) = some x
  | [], d, ds, i, x, h, hx => by
    cases Option.some.inj h
    show (match ds[i]? with | some x => atD x [] | none => none) = some x
    rw [hx]
    rfl
  | j :: p, d, ds, i, x, h, hx => by
    cases d with
    | tuple es =>
      have h' : (match es[j]? with | some x => atD x p | none => none) = some (.tuple ds) := h
      show (match es[j]? with | some x => atD x (p ++ [i]) | none => none) = some x
      cases e : es[j]? with
      | none => rw [e] at h'; cases h'
      | some y =>
        rw [e] at h'
        exact atD_snoc h' hx
    | _ => cases h
def sumW (es : List (List Nat × PyData)) : Nat := (es.map fun e => wt e.2).sum
theorem sumW_app (es fs : List (List Nat × PyData)) : sumW (es ++ fs) = sumW es + sumW fs := by
  unfold sumW
  rw [List.map_append, List.sum_append]
def newE (p : List Nat) (ds : List PyData) (j : Nat) : List (List Nat × PyData) := (List.range j).map fun i => (p ++ [i], ds.getD i .none)
theorem newE_succ (p : List Nat) (ds : List PyData) (j : Nat) : newE p ds (j + 1) = newE p ds j ++ [(p ++ [j], ds.getD j .none)] := by
  unfold newE
  rw [List.range_succ, List.map_append]
  rfl
theorem newE_sum (p : List Nat) (ds : List PyData) : sumW (newE p ds ds.length) = wtA ds := by
  unfold sumW newE
  rw [List.map_map]
  have e : ((fun e : List Nat × PyData => wt e.2) ∘ fun i => (p ++ [i], ds.getD i .none)) = fun i => wt (ds.getD i .none) := rfl
  rw [e]
  clear e
  induction ds with
  | nil => rfl
  | cons d ds ih =>
    rw [List.length_cons, List.range_succ_eq_map, List.map_cons, List.sum_cons, List.map_map]
    show wt d + (List.map (fun i => wt (ds.getD i .none)) (List.range ds.length)).sum = wt d + wtA ds
    rw [ih]
theorem newE_len (p : List Nat) (ds : List PyData) (j : Nat) : (newE p ds j).length = j := by
  unfold newE
  rw [List.length_map, List.length_range]
theorem same_hid2 {S S' : List Addr} {H H' : Hp} (s : Same H H') (n : ∀ b ∈ S', H b = none) : Same (hidS S H) (hidS (S' ++ S) H') := fun b o e => by
  by_cases m : b ∈ S
  · rw [hid_in m] at e
    cases e
  · rw [hid_out m] at e
    refine hid_of (fun q => ?_) (s b o e)
    rcases List.mem_append.mp q with q | q
    · rw [n b q] at e
      cases e
    · exact m q
def spPaths (K : PySem.W.Frag) : Sp := fun vs H Q _ => ∃ v d, vs = [v] ∧ Dx K H v d ∧ wt d ≤ 100000 ∧ d.depth ≤ 1000 ∧ ∀ l xs ps H', H l = none → Same H H' → H' l = some (.lst xs) → ps ≠ [] → ps.length ≤ 200000 → DxAll K H' xs (ps.map pathD) → (∀ p ∈ ps, ∃ x, atD d p = some x ∧ p.length ≤ 1000) → Q (.ref l) H'
section
variable {P : Program} {w : World} {K : PySem.W.Frag} {mg : Str → Option Value} {base : Heap}
theorem scLawPaths : FnScope ["thing", "line", "at", "path", "part", "k", "inner"] ["thing"] (defScope sLawPaths) := ⟨rfl, rfl, rfl, by decide +kernel, rfl, by decide +kernel, by decide +kernel⟩
theorem hLawPaths (D : DS K mg) (T : TF mg) : Has P w K mg base CX0 "_law_paths" sLawPaths ["thing"] 1 (spPaths K) := by
  refine Has.mk0 D.aLawPaths scLawPaths (fun _ _ _ _ _ _ us hl => match us, hl with | [_], _ => rfl) (fun vs H Q E h => ?_) (fun cdv A outer s H vs Q E hr h => ?_)
  · obtain ⟨v, d, rfl, _⟩ := h
    rfl
  · obtain ⟨v, d, rfl, hd, hw, hdep, k⟩ := h
    refine ⟨_, (pss_cons (ps_par (i := 1) (j := 2) rfl scLawPaths.nd rfl rfl (by decide) rfl rfl (pa_cons (pe_lst (pa_cons (pe_tup (pa_cons (pe_tup pa_nil) (pa_cons (pv 0) pa_nil))) pa_nil)) (pa_cons pe_int pa_nil)) (by rfl))
      (pss_cons (ps_while PassesOwn.never (pt_cmpR op_lt (pv 2) (pe_callB call_len_seq (by rfl) T.len PySem.boot_len (pa_cons (pv 1) pa_nil)) (nomark _))
        (pss_cons (ps_asg (pe_ix ix_list (pv 1) (pv 2) (fun _ _ => rfl)) (pg_tup rfl (pgs_cons (pg_name (i := 3) scLawPaths.nd rfl (Or.inr rfl)) (pgs_cons (pg_name (i := 4) scLawPaths.nd rfl (Or.inl rfl)) pgs_nil))))
        (pss_cons (ps_set (i := 2) scLawPaths.nd rfl (Or.inl rfl) (pe_op op_add (pv 2) pe_int))
        (pss_one (ps_if (pt_val (pe_callB call_isi (by rfl) T.isinstance (by decide +kernel) (pa_cons (pv 4) (pa_cons (pe_bltn (v := .ty "tuple") (by rfl) T.tuple (by decide +kernel) rfl) pa_nil))))
          (pss_one (ps_expr (pe_bm PySem.F.plainAttrs_list PySem.F.slot_list_extend PySem.F.type_list_extend mt_extend (pv 1) (pa_cons (pe_lc (own := [("k", 5), ("inner", 6)]) (g := (gTup K 2 (gCons (gName 5) (gCons (gName 6) gNil)))) rfl scLawPaths.nd (pi_enumT (by rfl) T.enumerate (pa_cons (pv 4) pa_nil)) (blkOk_by (own := [("k", 5), ("inner", 6)]) (N := ["thing", "line", "at", "path", "part", "k", "inner"]) (sc := defScope sLawPaths) (by decide +kernel)) (fun _ _ _ _ _ => (pg_tup rfl (pgs_cons (pg_name (i := 5) scLawPaths.nd rfl (Or.inl rfl)) (pgs_cons (pg_name (i := 6) scLawPaths.nd rfl (Or.inl rfl)) pgs_nil)))) (fun _ _ _ _ _ => pts_nil) (fun _ _ _ _ _ => (pe_tup (pa_cons (pe_op (op_catAK (K := K) rfl) (pv 3) (pe_tup (pa_cons (pv 5) pa_nil))) (pa_cons (pv 6) pa_nil))))) pa_nil))))
          pss_nil)))))
      (pss_one (ps_ret (pe_lc (own := [("path", 3), ("part", 4)]) (g := (gTup K 2 (gCons (gName 3) (gCons (gName 4) gNil)))) rfl scLawPaths.nd (pi_list (pv 1)) (blkOk_by (own := [("path", 3), ("part", 4)]) (N := ["thing", "line", "at", "path", "part", "k", "inner"]) (sc := defScope sLawPaths) (by decide +kernel)) (fun _ _ _ _ _ => (pg_tup rfl (pgs_cons (pg_name (i := 3) scLawPaths.nd rfl (Or.inl rfl)) (pgs_cons (pg_name (i := 4) scLawPaths.nd rfl (Or.inl rfl)) pgs_nil)))) (fun _ _ _ _ _ => pts_nil) (fun _ _ _ _ _ => (pv 3))))))), ?_⟩
    refine ⟨by show 0 ≤ sizeLine; exact Nat.zero_le _, fun p0 hp0 => ⟨_, rfl, by show 2 ≤ sizeLine; decide, fun t0 ht0 => ⟨by show 1 ≤ sizeLine; decide, fun L hL => ⟨_, _, rfl, ?_⟩⟩⟩⟩
    have a1 : Same H (upd H p0 (.tup [])) := snew hp0
    have b1 : (upd H p0 (.tup [])) p0 = some (.tup []) := upd_same
    generalize upd H p0 (.tup []) = H1 at *
    have a2 : Same H1 (upd H1 t0 (.tup [.ref p0, v])) := snew ht0
    have b2 : (upd H1 t0 (.tup [.ref p0, v])) t0 = some (.tup [.ref p0, v]) := upd_same
    generalize upd H1 t0 (.tup [.ref p0, v]) = H2 at *
    have a3 : Same H2 (upd H2 L (.lst [.ref t0])) := snew hL
    have b3 : (upd H2 L (.lst [.ref t0])) L = some (.lst [.ref t0]) := upd_same
    have hLn : H L = none := (a1.trans a2).free hL
    have c1 := a3 _ _ (a2 _ _ b1)
    have c2 := a3 _ _ b2
    have sH := a1.trans (a2.trans a3)
    generalize upd H2 L (.lst [.ref t0]) = H3 at *
    show tSeq _ _ _ ([some v, some (.ref L), some (.int 0), none, none, none, none] : L2.St) _
    have notS : ∀ {b : Addr} {xs : List V}, H3 b = some (.tup xs) → b ∉ [L] := fun {b xs} e m => by
      rw [List.mem_singleton.mp m, b3] at e
      cases e
    have hn : ∀ b ∈ [L], H b = none := fun b m => by rw [List.mem_singleton.mp m]; exact hLn
    refine ⟨fun m σ Hc => ∃ (lv : List V) (es : List (List Nat × PyData)) (i : Nat) (v3 v4 : Option V), σ = [some v, some (.ref L), some (.int (i : Nat)), v3, v4, none, none] ∧ Hc L = some (.lst lv) ∧ DxAll K (hidS [L] Hc) lv (es.map entD) ∧ Same H Hc ∧ i ≤ es.length ∧ es ≠ [] ∧
      (∀ e ∈ es, atD d e.1 = some e.2 ∧ e.1.length + e.2.depth ≤ d.depth) ∧ sumW (es.drop i) = m ∧ i + m ≤ wt d,
      ⟨_, [.ref t0], [([], d)], 0, none, none, rfl, b3, .cons (.tup (SqT.of (hid_of (notS c2) c2)) (.cons (.tup (SqT.of (hid_of (notS c1) c1)) .nil) (.cons (dxSame (same_hid sH hn) _ _ hd) .nil))) .nil, sH, Nat.zero_le _, by simp, fun e he => by rw [List.mem_singleton.mp he]; exact ⟨rfl, by simp⟩, rfl, by simp [sumW]⟩, ?_⟩
    clear c1 c2 notS sH b3 a3 a2 a1 b1 b2 hp0 ht0 hL
    rintro m σ Hc ⟨lv, es, i, v3, v4, rfl, cL, cA, sc, il, ne, hE, rfl, im⟩
    have ll : lv.length = es.length := by rw [DxAll.len cA, List.length_map]
    refine ⟨_, rfl, _, rfl, L, lv, rfl, .inl (SqL.of cL), _, _, rfl, rfl, _, rfl, ?_⟩
    have LS : L ∈ [L] := List.mem_singleton.mpr rfl
    by_cases lt : i < es.length
    case neg =>
      rw [decide_eq_false (show ¬ ((i : Nat) : Int) < (lv.length : Nat) by rw [ll]; omega)]
      refine iteF ?_
      refine ⟨_, rfl, L, rfl, ⟨_, SqL.of cL⟩, fun Dn hDn => ?_⟩
      have cAu := cA.unhid
      refine lc_it (walk_list (K := K) (a := L) (xs := lv)) (fun j Hd => ∃ us, Same Hc Hd ∧ Hd Dn = some (.lst us) ∧ DxAll K Hd us ((es.take j).map fun e => pathD e.1)) ⟨[], snew hDn, upd_same, .nil⟩ (fun _ Hd _ ⟨_, q, _⟩ => q.seq (SqL.of cL)) ?_ ?_
      · rintro j y Hd Hd' hj ⟨us, q1, q2, q3⟩ ⟨rfl, hy⟩
        obtain ⟨dn, hn2, hyn⟩ := DxAll.atV cAu hy
        obtain ⟨e, he, rfl⟩ := map_at hn2
        have tk : es.take (j + 1) = es.take j ++ [e] := by
          rw [List.take_succ, he]
          rfl
        obtain ⟨a, fs, rfl, te⟩ := (dxSame q1 _ _ hyn).tupD
        obtain ⟨vp, vx, rfl⟩ := len2 te.len
        have hvp : Dx K Hd' vp (pathD e.1) := by
          cases te.all with
          | cons a r => exact a
        refine ⟨a, _, rfl, te.at_, rfl, _, _, rfl, _, _, rfl, rfl, rfl, yes_if ⟨_, rfl, us, q2, ?_, us ++ [vp], upd_same_new q1 hDn, upd_same, ?_⟩⟩
        · have l1 := DxAll.len q3
          rw [List.length_map, List.length_take] at l1
          rw [sizeLine_eq]
          omega
        · have T2 : Tst Hd' (upd Hd' Dn (.lst (us ++ [vp]))) := Tst.set q2 trivial
          rw [tk, List.map_append]
          refine DxAll.app (T2.dxA ?_ q3) (.cons (T2.dx (nl_path e.1) hvp) .nil)
          rw [nlA_all, List.all_eq_true]
          intro z hz
          obtain ⟨q, _, rfl⟩ := List.mem_map.mp hz
          exact nl_path q.1
      · rintro Hd ⟨us, q1, q2, q3⟩
        rw [ll, List.take_length] at q3
        have e1 : (es.map fun e => pathD e.1) = (es.map (·.1)).map pathD := by rw [List.map_map]; rfl
        rw [e1] at q3
        refine k Dn us (es.map (·.1)) Hd (sc.free hDn) (sc.trans q1) q2 (by simpa using ne) ?_ q3 fun p hp => ?_
        · rw [List.length_map]
          omega
        · obtain ⟨e, he, rfl⟩ := List.mem_map.mp hp
          obtain ⟨h1, h2⟩ := hE e he
          exact ⟨e.2, h1, by omega⟩
    rw [decide_eq_true (show ((i : Nat) : Int) < (lv.length : Nat) by rw [ll]; omega)]
    refine iteT ?_
    refine ⟨fun σ' H' => ∃ m', m' < _ ∧ _, fun _ _ h => h, ?_⟩
    have hei : (es.map entD)[i]? = some (entD es[i]) := by rw [List.getElem?_map, List.getElem?_eq_getElem lt]; rfl
    obtain ⟨u, hu, hdu⟩ := DxAll.at cA hei
    have dropi : es.drop i = es[i] :: es.drop (i + 1) := List.drop_eq_getElem_cons lt
    obtain ⟨hat, hln⟩ := hE es[i] (List.getElem_mem _)
    generalize es[i] = e at *
    obtain ⟨p, x⟩ := e
    rw [dropi] at im ⊢
    have sumc : sumW ((p, x) :: es.drop (i + 1)) = wt x + sumW (es.drop (i + 1)) := rfl
    rw [sumc] at im ⊢
    obtain ⟨a, fs, rfl, te⟩ := hdu.tupD
    obtain ⟨vp, vx, rfl⟩ := len2 te.len
    obtain ⟨hvp, hvx⟩ : Dx K (hidS [L] Hc) vp (pathD p) ∧ Dx K (hidS [L] Hc) vx x := by
      cases te.all with
      | cons a r => cases r with
        | cons b _ => exact ⟨a, b⟩
    obtain ⟨ap, pvs, rfl, tp⟩ := hvp.tupD
    refine ⟨_, rfl, _, rfl, L, lv, _, _, rfl, rfl, SqL.of cL, atI_nat hu, a, _, rfl, Dx.sameT hid_same te.at_, rfl, _, _, rfl, _, _, rfl, rfl, ?_⟩
    refine ⟨_, rfl, _, _, rfl, rfl, ?_⟩
    have wx := wt_pos x
    refine ⟨_, rfl, _, _, _, _, _, rfl, .ty "tuple", hvx.unhid.ty, kit_ty (kit_tuple x), _, rfl, ?_⟩
    rw [isTup_ty]
    cases it : isTup x with
    | false =>
      exact iteF ⟨sumW (es.drop (i + 1)), by omega, lv, es, i + 1, _, _, rfl, cL, cA, sc, by omega, ne, hE, rfl, by omega⟩
    | true =>
    obtain ⟨ds, rfl⟩ : ∃ ds, x = .tuple ds := by cases x <;> first | exact ⟨_, rfl⟩ | cases it
    obtain ⟨ax, xs, rfl, tx⟩ := hvx.tupD
    have lxs := tx.len
    refine iteT ⟨_, rfl, .inl ⟨rfl, _, SqL.of cL⟩, _, rfl, ax, xs, rfl, Dx.sameT hid_same tx.at_, fun Dn hDn => ?_⟩
    have hlnp : p.length + (PyData.tuple ds).depth ≤ d.depth := hln
    have wds : wt (.tuple ds) = 1 + wtA ds := rfl
    have lds : ds.length ≤ wtA ds := wtA_len ds
    have dep : (PyData.tuple ds).depth = PyData.depthAll ds + 1 := rfl
    refine lc_it (walk_enumT (K := K) (a := ax) (xs := xs)) (fun j Hd => ∃ us, Same Hc Hd ∧ Hd Dn = some (.lst us) ∧ DxAll K (hidS [Dn, L] Hd) us ((newE p ds j).map entD)) ⟨[], snew hDn, upd_same, .nil⟩ (fun _ Hd _ ⟨_, q, _⟩ => Dx.sameT q (Dx.sameT hid_same tx.at_)) ?_ ?_
    · rintro j y Hd Hd' hj ⟨us, q1, q2, q3⟩ ⟨T, z, xj, rfl, hT, rfl, hz, hx⟩
      cases Option.some.inj hz
      have sT : Same Hd (upd Hd T (.tup [.int (j : Nat), xj])) := snew hT
      have q1T := q1.trans sT
      have q2T := sT _ _ q2
      have q3T := (Fr.of (S := [Dn, L]) sT).dxA q3
      have lvT : Live [Dn, L] (upd Hd T (.tup [.int (j : Nat), xj])) := fun c hc z => by
        simp only [List.mem_cons, List.not_mem_nil, or_false] at hc
        rcases hc with rfl | rfl
        · rw [q2T] at z
          cases z
        · rw [q1T _ _ cL] at z
          cases z
      refine ⟨T, _, rfl, SqT.of upd_same, rfl, _, _, rfl, _, _, rfl, rfl, rfl, yes_if ?_⟩
      clear hz
      generalize upd Hd T (.tup [.int (j : Nat), xj]) = H4 at sT q1T q2T q3T lvT ⊢
      have up : Same (hidS [L] Hc) (hidS [Dn, L] H4) := same_hid2 (S' := [Dn]) q1T fun b hb => by rw [List.mem_singleton.mp hb]; exact hDn
      have tp4 := tp.same up
      have tx4 := tx.same up
      obtain ⟨dj, hdj, hxj⟩ := DxAll.atV tx4.all hx
      refine ⟨_, rfl, _, rfl, by show 1 ≤ sizeLine; decide, fun q1' hq1 => ?_⟩
      have tq1 := newH (K := K) lvT hq1 (.cons (.int (j : Nat)) .nil)
      have sq1 : Same H4 (upd H4 q1' (.tup [.int (j : Nat)])) := snew hq1
      have lv1 := lvT.same sq1
      refine cat_h (S := [Dn, L]) lv1 ((Fr.of sq1).tupD tp4) tq1 ?_ fun q2' zs H9 s9 tq2 => ?_
      · rw [List.length_map]
        simp only [List.length_cons, List.length_nil]
        omega
      rw [path_snoc] at tq2
      have s49 := sq1.trans s9
      have lv9 := lv1.same s9
      refine ⟨_, rfl, by show 2 ≤ sizeLine; decide, fun q3' hq3 => ?_⟩
      have tq3 := newH lv9 hq3 (.cons tq2.dx (.cons ((Fr.of (S := [Dn, L]) s49).dx hxj) .nil))
      have sq3 : Same H9 (upd H9 q3' (.tup [.ref q2', xj])) := snew hq3
      have s43 := s49.trans sq3
      have DS : Dn ∈ [Dn, L] := by simp
      have fin : Fr [Dn, L] (upd H9 q3' (.tup [.ref q2', xj])) (upd (upd H9 q3' (.tup [.ref q2', xj])) Dn (.lst (us ++ [.ref q3']))) := Fr.set DS
      refine ⟨us, s43 _ _ q2T, ?_, us ++ [.ref q3'], upd_same_new (q1T.trans s43) hDn, upd_same, ?_⟩
      · have l1 := DxAll.len q3
        rw [List.length_map, newE_len] at l1
        rw [sizeLine_eq]
        omega
      · rw [newE_succ, List.map_append]
        have gd : ds.getD j .none = dj := by rw [List.getD_eq_getElem?_getD, hdj]; rfl
        rw [gd]
        exact DxAll.app (fin.dxA ((Fr.of (S := [Dn, L]) s43).dxA q3T)) (.cons (fin.dx tq3.dx) .nil)
    · rintro Hd ⟨us, q1, q2, q3⟩
      rw [lxs] at q3
      have cLd := q1 _ _ cL
      have down : Same (hidS [Dn, L] Hd) (hidS [L] Hd) := hid_more fun b hb => List.mem_cons_of_mem _ hb
      have fin : Fr [L] Hd (upd Hd L (.lst (lv ++ us))) := Fr.set LS
      have all2 : DxAll K (hidS [L] (upd Hd L (.lst (lv ++ us)))) (lv ++ us) ((es ++ newE p ds ds.length).map entD) := by
        rw [List.map_append]
        exact DxAll.app (fin.dxA ((Fr.of q1).dxA cA)) (fin.dxA (dxSameA down _ _ q3))
      have lu := DxAll.len q3
      rw [List.length_map, newE_len] at lu
      have dr : (es ++ newE p ds ds.length).drop (i + 1) = es.drop (i + 1) ++ newE p ds ds.length := List.drop_append_of_le_length (by omega)
      refine ⟨L, Dn, lv, us, rfl, rfl, cLd, q2, ?_, sumW (es.drop (i + 1)) + wtA ds, by omega, lv ++ us, es ++ newE p ds ds.length, i + 1, _, _, rfl, upd_same, all2, upd_same_new (sc.trans q1) hLn, ?_, ?_, ?_, ?_, by omega⟩
      · have : (es.drop (i + 1)).length ≤ sumW (es.drop (i + 1)) := by
          generalize es.drop (i + 1) = fs
          induction fs with
          | nil => exact Nat.le_refl _
          | cons f fs ih =>
            have := wt_pos f.2
            show fs.length + 1 ≤ wt f.2 + sumW fs
            omega
        rw [List.length_drop] at this
        rw [sizeLine_eq]
        omega
      · rw [List.length_append, newE_len]
        omega
      · simp [ne]
      · intro e he
        rcases List.mem_append.mp he with he | he
        · exact hE e he
        · obtain ⟨j, hj, rfl⟩ := List.mem_map.mp he
          have lj := List.mem_range.mp hj
          have hdj : ds[j]? = some (ds.getD j .none) := by rw [List.getD_eq_getElem?_getD, List.getElem?_eq_getElem lj]; rfl
          refine ⟨atD_snoc hat hdj, ?_⟩
          have := depth_getD ds j
          have hln' : p.length + (PyData.tuple ds).depth ≤ d.depth := hln
          show (p ++ [j]).length + (ds.getD j .none).depth ≤ d.depth
          rw [List.length_append, List.length_singleton]
          omega
      · rw [dr, sumW_app, newE_sum]
end
end Any
set_option Elab.async false
set_option linter.all false
set_option maxRecDepth 100000
set_option maxHeartbeats 4000000
/-! What a path leads to; another thing put there. -/
namespace Any
open PySem PySem.Spec PyProof.Rows L2 RT
open He (ga ma)
def putD : PyData → List Nat → PyData → PyData
  | _, [], y => y
  | .tuple ds, i :: p, y => .tuple ((ds.take i ++ [putD (ds.getD i .none) p y]) ++ ds.drop (i + 1))
  | d, _ :: _, _ => d
theorem ints_vals {K : PySem.W.Frag} {H : Hp} : ∀ {p : List Nat} {xs : List V}, DxAll K H xs (p.map fun (i : Nat) => PyData.int i) → xs = p.map fun (i : Nat) => V.int i
  | [], _, .nil => rfl
  | _ :: p, _, .cons h r => by
    cases h
    rw [ints_vals r]
    rfl
def spPartAt (K : PySem.W.Frag) : Sp := fun vs H Q _ => ∃ v d pa pxs p x, vs = [v, .ref pa] ∧ Dx K H v d ∧ TupD K H pa pxs (p.map fun (i : Nat) => PyData.int i) ∧ atD d p = some x ∧ ∀ w, Dx K H w x → Q w H
def spPutAt (K : PySem.W.Frag) (n : Nat) : Sp := fun vs H Q _ => ∃ v d pa pxs p x w y, vs = [v, .ref pa, w] ∧ Dx K H v d ∧ TupD K H pa pxs (p.map fun (i : Nat) => PyData.int i) ∧ atD d p = some x ∧ p.length < n ∧ p.length ≤ 1000 ∧ wt d ≤ 100000 ∧ Dx K H w y ∧
  ∀ u H', Same H H' → Dx K H' u (putD d p y) → Q u H'
section
variable {P : Program} {w : World} {K : PySem.W.Frag} {mg : Str → Option Value} {base : Heap}
theorem scLawPartAt : FnScope ["thing", "path", "k"] ["thing", "path"] (defScope sLawPartAt) := ⟨rfl, rfl, rfl, by decide +kernel, rfl, by decide +kernel, by decide +kernel⟩
theorem hLawPartAt (D : DS K mg) (T : TF mg) : Has P w K mg base CX0 "_law_part_at" sLawPartAt ["thing", "path"] 1 (spPartAt K) := by
  refine Has.mk0 D.aLawPartAt scLawPartAt (fun _ _ _ _ _ _ us hl => match us, hl with | [_, _], _ => rfl) (fun vs H Q E h => ?_) (fun cdv A outer s H vs Q E hr h => ?_)
  · obtain ⟨v, d, pa, pxs, p, x, rfl, _⟩ := h
    rfl
  · obtain ⟨v, d, pa, pxs, p, x, rfl, hd, tp, hx, k⟩ := h
    refine ⟨_, (pss_cons (ps_for PassesOwn.never rfl (pi_tup (pv 1)) (pg_name (i := 2) scLawPartAt.nd rfl (Or.inl rfl))
        (pss_one (ps_set (i := 0) scLawPartAt.nd rfl (Or.inl rfl) (pe_ix ix_tup (pv 0) (pv 2) (fun _ _ => rfl)))))
      (pss_one (ps_ret (pv 0)))), ?_⟩
    have ev := ints_vals tp.all
    have lp : pxs.length = p.length := by rw [ev, List.length_map]
    refine ⟨_, rfl, pa, rfl, ⟨_, tp.at_⟩, for_it (walk_tup (K := K) (a := pa) (xs := pxs)) (fun i σ Hc => ∃ w v2 y, σ = [some w, some (.ref pa), v2] ∧ Hc = H ∧ Dx K H w y ∧ atD y (p.drop i) = some x) ⟨v, none, d, rfl, rfl, hd, hx⟩ (fun _ _ _ _ ⟨_, _, _, _, e, _⟩ => by rw [e]; exact tp.at_) ?_ ?_⟩
    · rintro i z σ Hc Hc' hi ⟨w, v2, y, rfl, rfl, hw, hy⟩ ⟨rfl, hz⟩
      rw [ev, List.getElem?_map] at hz
      rw [lp] at hi
      rw [List.getElem?_eq_getElem hi] at hz
      cases Option.some.inj hz
      rw [List.drop_eq_getElem_cons hi] at hy
      generalize p[i] = j at *
      cases y with
      | tuple ds =>
        have hy' : (match ds[j]? with | some x => atD x (p.drop (i + 1)) | none => none) = some x := hy
        cases e : ds[j]? with
        | none => rw [e] at hy'; cases hy'
        | some u =>
          rw [e] at hy'
          obtain ⟨a, xs, rfl, t⟩ := hw.tupD
          obtain ⟨vj, ej, hj⟩ := t.get j e
          exact ⟨_, rfl, _, rfl, a, xs, _, vj, rfl, rfl, t.at_, ej, vj, _, u, rfl, rfl, hj, hy'⟩
      | _ => cases hy
    · rintro σ Hc ⟨w, v2, y, rfl, rfl, hw, hy⟩
      rw [lp, List.drop_length] at hy
      cases Option.some.inj hy
      exact ⟨_, rfl, k w hw⟩
theorem scLawPutAt : FnScope ["thing", "path", "part"] ["thing", "path", "part"] (defScope sLawPutAt) := ⟨rfl, rfl, rfl, by decide +kernel, rfl, by decide +kernel, by decide +kernel⟩
theorem hLawPutAt (D : DS K mg) (T : TF mg) : ∀ n : Nat, Has P w K mg base CX0 "_law_put_at" sLawPutAt ["thing", "path", "part"] (n + 1) (spPutAt K n) := by
  intro n
  induction n with
  | zero =>
    exact Has.mk0 D.aLawPutAt scLawPutAt (fun _ _ _ _ _ _ us hl => match us, hl with | [_, _, _], _ => rfl) (fun vs H Q E ⟨_, _, _, _, _, _, _, _, _, _, _, _, h, _⟩ => absurd h (Nat.not_lt_zero _)) (fun cdv A outer s H vs Q E hr ⟨_, _, _, _, _, _, _, _, _, _, _, _, h, _⟩ => absurd h (Nat.not_lt_zero _))
  | succ n ih =>
  have hLawPutAt : Has P w K mg base CX0 _ _ _ (n + 1) _ := ih
  refine Has.mk0 D.aLawPutAt scLawPutAt (fun _ _ _ _ _ _ us hl => match us, hl with | [_, _, _], _ => rfl) (fun vs H Q E h => ?_) (fun cdv A outer s H vs Q E hr h => ?_)
  · obtain ⟨v, d, pa, pxs, p, x, w, y, rfl, _⟩ := h
    rfl
  · obtain ⟨v, d, pa, pxs, p, x, w, y, rfl, hd, tp, hx, hpn, hp1, hwt, hwy, k⟩ := h
    refine ⟨_, (pss_cons (ps_if (pt_cmpR (op_eqE (K := K) rfl hr.units) (pv 1) (pe_tup pa_nil) (nomark _))
        (pss_one (ps_ret (pv 2)))
        pss_nil)
      (pss_one (ps_ret (pe_op op_catA (pe_op op_catA (pe_slice sl_tupA (pv 0) po_none (po_some (pe_ix ix_tup (pv 1) pe_int (fun _ _ => rfl)))) (pe_tup (pa_cons (pe_fn hLawPutAt (hr.mono (by omega)) (by rfl) (pa_cons (pe_ix ix_tup (pv 0) (pe_ix ix_tup (pv 1) pe_int (fun _ _ => rfl)) (fun _ _ => rfl)) (pa_cons (pe_slice sl_tupA (pv 1) (po_some pe_int) po_none) (pa_cons (pv 2) pa_nil)))) pa_nil))) (pe_slice sl_tupA (pv 0) (po_some (pe_op op_add (pe_ix ix_tup (pv 1) pe_int (fun _ _ => rfl)) pe_int)) po_none))))), ?_⟩
    refine ⟨_, rfl, by show 0 ≤ sizeLine; exact Nat.zero_le _, fun e0 he0 => ?_⟩
    have s1 : Same H (upd H e0 (.tup [])) := snew he0
    have tp1 := tp.same s1
    refine ⟨pa, e0, pxs, rfl, rfl, .inl ⟨tp1.at_, SqT.of upd_same⟩, _, rfl, ?_⟩
    generalize upd H e0 (.tup []) = H1 at s1 tp1 ⊢
    have ev := ints_vals tp.all
    cases p with
    | nil =>
      subst ev
      exact iteT ⟨_, rfl, k w H1 s1 (dxSame s1 _ _ hwy)⟩
    | cons i p =>
      subst ev
      refine iteF ?_
      cases d with
      | tuple ds =>
        have hx' : (match ds[i]? with | some x => atD x p | none => none) = some x := hx
        cases e : ds[i]? with
        | none => rw [e] at hx'; cases hx'
        | some u =>
          rw [e] at hx'
          have gd : ds.getD i .none = u := by rw [List.getD_eq_getElem?_getD, e]; rfl
          have li := (List.getElem?_eq_some_iff.mp e).1
          have wds : wt (.tuple ds) = 1 + wtA ds := rfl
          have lds := wtA_len ds
          have wu := wtA_mem (List.mem_of_getElem? e)
          obtain ⟨a, xs, rfl, t⟩ := hd.tupD
          obtain ⟨vj, ej, hj⟩ := t.get i e
          have t1 := t.same s1
          have ei : atI (((i :: p).map fun (i : Nat) => V.int i)) (0 : Int) = some (V.int i) := atI_nat (j := 0) rfl
          refine ⟨_, rfl, ?_⟩
          unfold tNoPart
          refine ⟨_, rfl, pa, _, _, _, rfl, rfl, tp1.at_, ei, _, rfl, slA_to (k := i) t1.at_ fun p1 H2 s2 e2 => ?_⟩
          have s02 := s1.trans s2
          have tl : TupD K H2 p1 (xs.take i) (ds.take i) := ⟨e2, (t.same s02).all.take i⟩
          have tp2 := tp.same s02
          have t2 := t.same s02
          refine ⟨_, rfl, _, rfl, pa, _, _, _, rfl, rfl, tp2.at_, ei, a, xs, _, vj, rfl, rfl, t2.at_, ej, _, rfl, _, rfl, slA_from (k := 1) tp2.at_ fun p2 H3 s3 e3 => ?_⟩
          have s03 := s02.trans s3
          have tp3 : TupD K H3 p2 (p.map fun (i : Nat) => V.int i) (p.map fun (i : Nat) => PyData.int i) := ⟨e3, by have := (tp.same s03).all.drop 1; exact this⟩
          rw [List.length_cons] at hpn hp1
          refine ⟨_, rfl, vj, u, p2, _, p, x, w, y, rfl, dxSame s03 _ _ hj, tp3, hx', by omega, by omega, by omega, dxSame s03 _ _ hwy, fun u2 H4 s4 hu2 => ?_⟩
          refine ⟨by show 1 ≤ sizeLine; decide, fun q hq => ?_⟩
          have s5 : Same H4 (upd H4 q (.tup [u2])) := snew hq
          have tq : TupD K (upd H4 q (.tup [u2])) q [u2] [putD u p y] := ⟨SqT.of upd_same, .cons (dxSame s5 _ _ hu2) .nil⟩
          have s25 := s3.trans (s4.trans s5)
          refine cat_d (tl.same s25) tq ?_ fun p5 zs H6 s6 t6 => ?_
          · rw [List.length_take]
            simp only [List.length_cons, List.length_nil]
            omega
          have s06 := s02.trans (s25.trans s6)
          have tp6 := tp.same s06
          have t6a := t.same s06
          refine ⟨_, rfl, _, rfl, pa, _, _, _, rfl, rfl, tp6.at_, ei, _, _, rfl, rfl, _, rfl, ?_⟩
          refine slA_from (k := i + 1) t6a.at_ fun p7 H7 s7 e7 => ?_
          have s07 := s06.trans s7
          have tr : TupD K H7 p7 (xs.drop (i + 1)) (ds.drop (i + 1)) := ⟨e7, (t.same s07).all.drop (i + 1)⟩
          refine cat_d (t6.same s7) tr ?_ fun p8 zs8 H8 s8 t8 => ?_
          · rw [List.length_append, List.length_take, List.length_drop]
            simp only [List.length_cons, List.length_nil]
            omega
          refine k (.ref p8) H8 (s07.trans s8) ?_
          show Dx K H8 (.ref p8) (.tuple ((ds.take i ++ [putD (ds.getD i .none) p y]) ++ ds.drop (i + 1)))
          rw [gd]
          exact t8.dx
      | _ => cases hx
end
end Any
set_option Elab.async false
set_option linter.all false
set_option maxRecDepth 100000
set_option maxHeartbeats 4000000
/-! Rows taken backwards. -/
namespace Any
open PySem PySem.Spec PyProof.Rows L2 RT HT
/-- xs[::k], k 1 or -1 -/
def tStpL (K : PySem.W.Frag) (te ts : TE) : TE := fun σ H Q => te σ H fun x H1 => tPart ts σ H1 fun o H2 => ∃ (a : Addr) (xs : List V) (k : Int), o = some k ∧ x = .ref a ∧ (k = 1 ∨ k = -1) ∧ SqL K H2 a xs ∧ ∀ p, H2 p = none → Q (.ref p) (upd H2 p (.lst (if k = 1 then xs else xs.reverse)))
theorem slicePick_all (items : Array Value) : slicePick items none none (some 1) = items := by
  unfold slicePick
  have e : sliceBounds none none (some 1) items.size = (((0 : Nat) : Int), ((items.size : Nat) : Int), 1) := rfl
  rw [e]
  show ((sliceRange ((0 : Nat) : Int) ((items.size : Nat) : Int) 1).filterMap (items[·]?)).toArray = items
  rw [sliceRange_one, Nat.sub_zero]
  simp only [Nat.zero_add, List.map_id']
  have := fm_get items.toList (items[·]?) fun m lt => by rw [Array.getElem?_toList]
  rw [Array.length_toList] at this
  rw [this]
theorem pe_stpL {X : Cx} {e step : Expr} {te ts : TE} {p3 pos : Pos} (he : PE X e te) (hst : PE X step ts) (tail : ∀ a b : Addr, subscripted (.Slice none none (some step) p3) false (.ref a) (.ref b) = operate [.ref a, .ref b] (getItem (.ref a) (.ref b)) := by intro _ _; with_unfolding_all rfl) :
    PE X (.Subscript e (.Slice none none (some step) p3) pos) (tStpL X.K te ts) := by
  refine ⟨fun pins s σ H Q I h => Subscript_ (thn (he.run pins s σ H _ I h) fun v s1 ⟨x, H1, I1, r1, q1⟩ => ?_)⟩
  refine wpAny_Slice (thn (po_none.run pins s1 σ H1 (fun o H2 => o = none ∧ H2 = H1) I1 ⟨rfl, rfl⟩) fun vl s2 ⟨l, H2, I2, pl, el, e2⟩ => thn (po_none.run pins s2 σ H2 (fun o H3 => o = none ∧ H3 = H2) I2 ⟨rfl, rfl⟩) fun vu s3 ⟨u, H3, I3, pu, eu, e3⟩ => ?_)
  subst el e2 eu e3
  refine thn ((po_some hst).run pins s3 σ H3 _ I3 q1) fun vs s4 ⟨o, H4, I4, ps, a, xs, k, eo, ex, hk, hx, q⟩ => ?_
  subst eo ex
  cases r1
  have I5 : Inv X pins σ H4 { s4 with heap := s4.heap.push { cls := .type "slice", data := .fields #[vl, vu, vs] } } := I4.kept (t' := s4.toks) fun b ob q => Heap.get?_push_of_some _ q
  obtain ⟨its, r, ht, hz⟩ := I5.list hx
  have hlen := r.length
  show wpAny (model X.prog X.w) X.A (subscriptTail e (.Slice none none (some step) p3) (.ref a) (.ref s4.heap.objs.size)) (EP X pins σ Q) X.xe { s4 with heap := s4.heap.push { cls := .type "slice", data := .fields #[vl, vu, vs] } }
  refine tail_any (ops := [.ref a, .ref s4.heap.objs.size]) ht.isList.typeIs PySem.slot_list_getitem.lookup ?_ (tail _ _)
  refine wpAny_getItem_list_slice ht.isList (Heap.IsSliceOf.new _ vl vu vs) pl pu ps (by rcases hk with rfl | rfl <;> decide) ?_ (by rw [List.size_toArray]; omega)
  rcases hk with rfl | rfl
  · rw [slicePick_all]
    rw [if_pos rfl] at q
    refine ⟨.ref _, _, I5.laid (t' := s4.toks) (o := .lst xs) (fun b ob q => Heap.get?_push_of_some _ q) (Nat.le_refl _) ?_, rfl, q _ (I5.hok.fresh (Nat.le_refl _))⟩
    exact ⟨hz, _, 0, r, Heap.get?_push_size _ rfl⟩
  · rw [PySem.W.krv_pick]
    rw [if_neg (by decide)] at q
    refine ⟨.ref _, _, I5.laid (t' := s4.toks) (o := .lst xs.reverse) (fun b ob q => Heap.get?_push_of_some _ q) (Nat.le_refl _) ?_, rfl, q _ (I5.hok.fresh (Nat.le_refl _))⟩
    exact ⟨by rw [List.length_reverse]; exact hz, _, 0, r.reverse, Heap.get?_push_size _ rfl⟩
end Any
set_option Elab.async false
set_option linter.all false
set_option maxRecDepth 100000
set_option maxHeartbeats 4000000
/-! An odd thing in a part's place: what is needed for it. -/
namespace Any
open PySem PySem.Spec PyProof.Rows L2 RT
open He (ga ma)
open TL
theorem num_cps (n : Nat) : (Str.ofString (toString ((n : Nat) : Int))).cps.toList = numL n := tl_num n
theorem dig_asc {cs : List Nat} (h : NumText.AllDigits cs) : cs.all (fun c => decide (c < 128)) = true := List.all_eq_true.mpr fun c hc => decide_eq_true (by have := h c hc; omega)
theorem neg_cps (n : Nat) : (Str.ofString (toString (Int.negSucc n))).cps.toList = 45 :: numL (n + 1) := by
  have e : toString (Int.negSucc n) = "-" ++ toString (((n + 1 : Nat) : Int)) := rfl
  rw [← num_cps, e, Str.ofString_eq_toList, Str.ofString_eq_toList, String.toList_append]
  simp
theorem int_asc (i : Int) : ascS (Str.ofString (toString i)) = true := by
  cases i with
  | ofNat n =>
    unfold ascS
    rw [show (Str.ofString (toString (Int.ofNat n))).cps.toList = numL n from num_cps n]
    exact dig_asc (numL_digits n)
  | negSucc n =>
    unfold ascS
    rw [neg_cps, List.all_cons, dig_asc (numL_digits _)]
    rfl
theorem numL_small (n : Nat) : (numL n).length ≤ n + 1 := by
  refine numL_len (Nat.succ_pos n) ?_
  exact Nat.lt_of_lt_of_le (Nat.lt_pow_self (by decide)) (Nat.pow_le_pow_right (by decide) (Nat.le_succ n))
theorem int_len (i : Int) : (Str.ofString (toString i)).length ≤ i.natAbs + 2 := by
  have e : ∀ x : Str, x.length = x.cps.toList.length := fun x => by simp [Str.length]
  rw [e]
  cases i with
  | ofNat n =>
    rw [show (Str.ofString (toString (Int.ofNat n))).cps.toList = numL n from num_cps n]
    have := numL_small n
    show (numL n).length ≤ n + 2
    omega
  | negSucc n =>
    rw [neg_cps, List.length_cons]
    have := numL_small (n + 1)
    show (numL (n + 1)).length + 1 ≤ (n + 1) + 2
    omega
/-! ### slices with something hidden -/
section
variable {K : PySem.W.Frag} {S : List Addr} {H : Hp} {a : Addr} {xs : List V} {ds : List PyData} {Q : VK}
theorem slH {lo hi : Option Int} {es : List PyData} (l : Live S H) (t : TupD K (hidS S H) a xs ds) (c : ∀ H', DxAll K H' xs ds → DxAll K H' (cutV xs lo hi) es) (wh : cutV xs lo hi = xs → es = ds) (q : ∀ p H', Same H H' → TupD K (hidS S H') p (cutV xs lo hi) es → Q (.ref p) H') : rSlA K (.ref a) lo hi H Q := by
  refine ⟨a, xs, rfl, Dx.sameT hid_same t.at_, fun w => ?_, fun _ p hp => ?_⟩
  · refine q a H rsame ?_
    have e := cut_whole w
    rw [e, wh e]
    exact t
  · exact q p _ (snew hp) (newH l hp (c _ t.all))
theorem slH_from (k : Nat) (l : Live S H) (t : TupD K (hidS S H) a xs ds) (q : ∀ p H', Same H H' → TupD K (hidS S H') p (xs.drop k) (ds.drop k) → Q (.ref p) H') : rSlA K (.ref a) (some (k : Int)) none H Q := by
  have ll := t.len
  refine slH (es := ds.drop k) l t (fun H' h => by rw [cut_from]; exact h.drop k) (fun e => ?_) fun p H' s t' => q p H' s (by rw [← cut_from]; exact t')
  rw [cut_from] at e
  have h1 := congrArg List.length e
  rw [List.length_drop] at h1
  by_cases z : k = 0
  · rw [z, List.drop_zero]
  · have : xs.length = 0 := by omega
    have : ds = [] := List.length_eq_zero_iff.mp (by omega)
    rw [this, List.drop_nil]
theorem slH_to (k : Nat) (l : Live S H) (t : TupD K (hidS S H) a xs ds) (q : ∀ p H', Same H H' → TupD K (hidS S H') p (xs.take k) (ds.take k) → Q (.ref p) H') : rSlA K (.ref a) none (some (k : Int)) H Q := by
  have ll := t.len
  refine slH (es := ds.take k) l t (fun H' h => by rw [cut_to]; exact h.take k) (fun e => ?_) fun p H' s t' => q p H' s (by rw [← cut_to]; exact t')
  rw [cut_to] at e
  have h1 := congrArg List.length e
  rw [List.length_take] at h1
  exact List.take_of_length_le (by omega)
theorem cut_one (xs : List V) (k : Nat) : cutV xs (some (k : Int)) (some ((k + 1 : Nat) : Int)) = (xs.drop k).take 1 := by
  unfold cutV
  rw [HT.sIx_nat, HT.sIx_nat]
  by_cases h : k < xs.length
  · rw [Nat.min_eq_left (by omega), Nat.min_eq_left (by omega), Nat.add_sub_cancel_left]
  · rw [Nat.min_eq_right (by omega), Nat.min_eq_right (by omega), List.drop_length, List.drop_of_length_le (by omega), List.take_nil, List.take_nil]
theorem slH_one (k : Nat) (l : Live S H) (t : TupD K (hidS S H) a xs ds) (q : ∀ p H', Same H H' → TupD K (hidS S H') p ((xs.drop k).take 1) ((ds.drop k).take 1) → Q (.ref p) H') : rSlA K (.ref a) (some (k : Int)) (some ((k + 1 : Nat) : Int)) H Q := by
  have ll := t.len
  refine slH (es := (ds.drop k).take 1) l t (fun H' h => by rw [cut_one]; exact (h.drop k).take 1) (fun e => ?_) fun p H' s t' => q p H' s (by rw [← cut_one]; exact t')
  rw [cut_one] at e
  have h1 := congrArg List.length e
  rw [List.length_take, List.length_drop] at h1
  by_cases z : ds.length = 0
  · have : ds = [] := List.length_eq_zero_iff.mp z
    rw [this, List.drop_nil, List.take_nil]
  · have : k = 0 := by omega
    rw [this, List.drop_zero, List.take_of_length_le (by omega)]
end
theorem DxAll.rev {K : PySem.W.Frag} {H : Hp} : ∀ {vs : List V} {ds : List PyData}, DxAll K H vs ds → DxAll K H vs.reverse ds.reverse
  | _, _, .nil => .nil
  | _, _, .cons h r => by
    rw [List.reverse_cons, List.reverse_cons]
    exact DxAll.app (DxAll.rev r) (.cons h .nil)
theorem wtA_rev : ∀ ds : List PyData, wtA ds.reverse = wtA ds
  | [] => rfl
  | d :: ds => by
    have := wtA_rev ds
    rw [List.reverse_cons, wtA_app, this]
    simp only [wtA]
    omega
theorem wtA_take (ds : List PyData) (n : Nat) : wtA (ds.take n) + wtA (ds.drop n) = wtA ds := by rw [← wtA_app, List.take_append_drop]
theorem depthAll_app : ∀ (xs ys : List PyData), PyData.depthAll (xs ++ ys) = max (PyData.depthAll xs) (PyData.depthAll ys)
  | [], ys => by
    show PyData.depthAll ys = max 0 (PyData.depthAll ys)
    omega
  | x :: xs, ys => by
    show max x.depth (PyData.depthAll (xs ++ ys)) = max (max x.depth (PyData.depthAll xs)) (PyData.depthAll ys)
    rw [depthAll_app xs ys]
    omega
theorem depthAll_of {n : Nat} : ∀ {xs : List PyData}, (∀ x ∈ xs, x.depth ≤ n) → PyData.depthAll xs ≤ n
  | [], _ => Nat.zero_le _
  | x :: xs, h => Nat.max_le.mpr ⟨h x (List.mem_cons_self ..), depthAll_of fun y hy => h y (List.mem_cons_of_mem _ hy)⟩
/-- what an odd thing is, beside what it stands for -/
structure Odd (x y : PyData) : Prop where
  asc : asc y = true
  wt : wt y ≤ 2 * wt x + 30
  dep : y.depth ≤ x.depth + 2
theorem odd_sub {ds es : List PyData} (h : asc (.tuple ds) = true) (sub : ∀ e ∈ es, e ∈ ds) (w : wtA es ≤ 2 * wtA ds) : Odd (.tuple ds) (.tuple es) := by
  refine ⟨asc_tup' fun e he => asc_mem h (sub e he), ?_, ?_⟩
  · show 1 + wtA es ≤ 2 * (1 + wtA ds) + 30
    omega
  · show PyData.depthAll es + 1 ≤ PyData.depthAll ds + 1 + 2
    have := depthAll_of (xs := es) (n := PyData.depthAll ds) fun e he => Exq.depth_mem (sub e he)
    omega
/-- what may stand in any part's place -/
def anyOdd : List PyData := [.none, .int 5, .bool true, .str "zzzzzzzz", .tuple [], .list [], .dict [], .tuple [.str "number", .int 1], .tuple [.str "name", .str "zzzzzzzz"], .tuple [.none], .int (-1)]
theorem any_asc : anyOdd.all asc = true := by decide +kernel
theorem any_odd (x : PyData) : ∀ y ∈ anyOdd, Odd x y := fun y hy => by
  have h1 : ∀ y ∈ anyOdd, wt y ≤ 30 := by decide +kernel
  have h2 : ∀ y ∈ anyOdd, y.depth ≤ 1 := by decide +kernel
  exact ⟨List.all_eq_true.mp any_asc y hy, by have := h1 y hy; omega, by have := h2 y hy; omega⟩
end Any
set_option Elab.async false
set_option linter.all false
set_option maxRecDepth 100000
set_option maxHeartbeats 4000000
/-! An odd thing in a part's place. -/
namespace Any
open PySem PySem.Spec PyProof.Rows L2 RT
open He (ga ma)
theorem Draw.same {H H' : Hp} {d w c : Addr} {t : Int} (D : Draw H d w c t) (s : Same H H') : Draw H' d w c t := by
  obtain ⟨ws, cs, r, u, h1, h2, h3, q⟩ := D
  exact ⟨ws, cs, r, u, s _ _ h1, s _ _ h2, s _ _ h3, q⟩
theorem Draw.live {H : Hp} {d w c : Addr} {t : Int} (D : Draw H d w c t) : Live [d, w] H := fun b hb e => by
  obtain ⟨ws, cs, r, u, h1, h2, h3, q⟩ := D
  simp only [List.mem_cons, List.not_mem_nil, or_false] at hb
  rcases hb with rfl | rfl
  · rw [h1] at e
    cases e
  · rw [h2] at e
    cases e
theorem But.fr {d w : Addr} {H H' : Hp} (b : But d w H H') : Fr [d, w] H H' := Fr.mk fun p o e n => by
  simp only [List.mem_cons, List.not_mem_nil, or_false, not_or] at n
  exact b p o e n.1 n.2
theorem But.of {d w : Addr} {H H' : Hp} (s : Same H H') : But d w H H' := fun p o e _ _ => s p o e
theorem But.seq {K : PySem.W.Frag} {d w a : Addr} {H H' : Hp} {xs : List V} (b : But d w H H') (h : SqL K H a xs) (n1 : a ≠ d) (n2 : a ≠ w) : SqL K H' a xs := by
  rcases h with (h | ⟨o, h⟩) | h
  · exact .inl (.inl (b _ _ h n1 n2))
  · exact .inl (.inr ⟨o, b _ _ h n1 n2⟩)
  · exact .inr h
def spOdd (K : PySem.W.Frag) : Sp := fun vs H Q _ => ∃ (d w c : Addr) (t : Int) (v : V) (x : PyData) (nm : Addr) (names : List Str), vs = [.ref d, v, .ref nm] ∧ Draw H d w c t ∧ t < 1000000000 ∧ Dx K (hidS [d, w] H) v x ∧ asc x = true ∧ wt x ≤ 40000 ∧ H nm = some (.lst (names.map V.str)) ∧ nm ≠ d ∧ nm ≠ w ∧ names.length ≤ 1000 ∧ (∀ n ∈ names, ascS n = true ∧ n.length ≤ 8) ∧
  ∀ u y H', Draw H' d w c (t + 3) → But d w H H' → Dx K (hidS [d, w] H') u y → Odd x y → Q u H'
theorem ascS_app {x y : Str} (h1 : ascS x = true) (h2 : ascS y = true) : ascS (x ++ y) = true := by
  unfold ascS at *
  have e : (x ++ y).cps.toList = x.cps.toList ++ y.cps.toList := Array.toList_append
  rw [e, List.all_append, h1, h2]
  rfl
theorem len_app (x y : Str) : (x ++ y).length = x.length + y.length := by
  show (x.cps ++ y.cps).size = x.cps.size + y.cps.size
  simp
def strOdd (z : Str) : List PyData := [.str "", .str "Abc", .str "a1", .str "call", .str "abcdefghi", .str (z ++ "x"), .tuple [.str z], .str "left", .str "up", .str "none"]
theorem str_odd {z : Str} {names : List Str} (hz : ascS z = true) (hn : ∀ n ∈ names, ascS n = true ∧ n.length ≤ 8) : ∀ y ∈ names.map PyData.str ++ strOdd z, Odd (.str z) y := fun y hy => by
  have flat : ∀ s : Str, ascS s = true → s.length ≤ 20 → Odd (.str z) (.str s) := fun s h1 h2 => ⟨h1, by show 1 + s.length ≤ _; omega, Nat.zero_le _⟩
  rcases List.mem_append.mp hy with hy | hy
  · obtain ⟨n, mn, rfl⟩ := List.mem_map.mp hy
    obtain ⟨h1, h2⟩ := hn n mn
    exact flat n h1 (by omega)
  · unfold strOdd at hy
    simp only [List.mem_cons, List.not_mem_nil, or_false] at hy
    rcases hy with rfl | rfl | rfl | rfl | rfl | rfl | rfl | rfl | rfl | rfl
    · exact flat _ (by decide +kernel) (by decide +kernel)
    · exact flat _ (by decide +kernel) (by decide +kernel)
    · exact flat _ (by decide +kernel) (by decide +kernel)
    · exact flat _ (by decide +kernel) (by decide +kernel)
    · exact flat _ (by decide +kernel) (by decide +kernel)
    · refine ⟨ascS_app hz (by decide +kernel), ?_, Nat.zero_le _⟩
      show 1 + (z ++ "x" : Str).length ≤ 2 * (1 + z.length) + 30
      rw [len_app, show ("x" : Str).length = 1 by decide +kernel]
      omega
    · refine ⟨asc_tup' fun e he => by rw [List.mem_singleton.mp he]; exact hz, ?_, ?_⟩
      · show 1 + ((1 + z.length) + 0) ≤ 2 * (1 + z.length) + 30
        omega
      · show (max 0 0) + 1 ≤ 0 + 2
        omega
    · exact flat _ (by decide +kernel) (by decide +kernel)
    · exact flat _ (by decide +kernel) (by decide +kernel)
    · exact flat _ (by decide +kernel) (by decide +kernel)
def intOdd (i : Int) : List PyData := [.int (i + 1), .int (i - 1), .int (-1), .int 0, .int 1, .bool true, .bool false, .str (Str.ofString (toString i))]
theorem int_odd (i : Int) : ∀ y ∈ intOdd i, Odd (.int i) y := fun y hy => by
  unfold intOdd at hy
  simp only [List.mem_cons, List.not_mem_nil, or_false] at hy
  rcases hy with rfl | rfl | rfl | rfl | rfl | rfl | rfl | rfl
  · exact ⟨rfl, by show 1 + (i + 1).natAbs ≤ 2 * (1 + i.natAbs) + 30; omega, Nat.zero_le _⟩
  · exact ⟨rfl, by show 1 + (i - 1).natAbs ≤ 2 * (1 + i.natAbs) + 30; omega, Nat.zero_le _⟩
  · exact ⟨rfl, by show 1 + (-1 : Int).natAbs ≤ 2 * (1 + i.natAbs) + 30; omega, Nat.zero_le _⟩
  · exact ⟨rfl, by show 1 + (0 : Int).natAbs ≤ 2 * (1 + i.natAbs) + 30; omega, Nat.zero_le _⟩
  · exact ⟨rfl, by show 1 + (1 : Int).natAbs ≤ 2 * (1 + i.natAbs) + 30; omega, Nat.zero_le _⟩
  · exact ⟨rfl, by show 1 ≤ 2 * (1 + i.natAbs) + 30; omega, Nat.zero_le _⟩
  · exact ⟨rfl, by show 1 ≤ 2 * (1 + i.natAbs) + 30; omega, Nat.zero_le _⟩
  · refine ⟨int_asc i, ?_, Nat.zero_le _⟩
    have := int_len i
    show 1 + (Str.ofString (toString i)).length ≤ 2 * (1 + i.natAbs) + 30
    omega
theorem dx_strs' {K : PySem.W.Frag} {H : Hp} : ∀ (zs : List Str), DxAll K H (zs.map V.str) (zs.map PyData.str)
  | [] => .nil
  | z :: zs => .cons (.str z) (dx_strs' zs)
section
variable {P : Program} {w : World} {K : PySem.W.Frag} {mg : Str → Option Value} {base : Heap}
theorem scLawOdd : FnScope ["draw", "part", "names", "at", "some"] ["draw", "part", "names"] (defScope sLawOdd) := ⟨rfl, rfl, rfl, by decide +kernel, rfl, by decide +kernel, by decide +kernel⟩
theorem hLawOdd (D : DS K mg) (T : TF mg) : Has P w K mg base CX0 "_law_odd" sLawOdd ["draw", "part", "names"] 4 (spOdd K) := by
  have hLawTake : Has P w K mg base CX0 _ _ _ 2 _ := hLawTake D T
  have hLawPick : Has P w K mg base CX0 _ _ _ 3 _ := hLawPick D T
  refine Has.mk0 D.aLawOdd scLawOdd (fun _ _ _ _ _ _ us hl => match us, hl with | [_, _, _], _ => rfl) (fun vs H Q E h => ?_) (fun cdv A outer s H vs Q E hr h => ?_)
  · obtain ⟨d, w, c, t, v, x, nm, names, rfl, _⟩ := h
    rfl
  · obtain ⟨d, w', c, t, v, x, nm, names, rfl, dr, ht, hd, ha, hw, hnm, nd, nw, nl, nA, k⟩ := h
    refine ⟨_, (pss_cons (ps_if (PW.pt (pw_and (pt_val (pe_callB call_isi (by rfl) T.isinstance (by decide +kernel) (pa_cons (pv 1) (pa_cons (pe_bltn (v := .ty "tuple") (by rfl) T.tuple (by decide +kernel) rfl) pa_nil)))) (pw_and1 (pt_cmpR op_gt (pe_fn hLawTake (hr.mono (by decide)) (by rfl) (pa_cons (pv 0) (pa_cons pe_int pa_nil))) pe_int (nomark _)))))
        (pss_cons (ps_set (i := 3) scLawOdd.nd rfl (Or.inl rfl) (pe_fn hLawTake (hr.mono (by decide)) (by rfl) (pa_cons (pv 0) (pa_cons (pe_op op_add (pe_callB call_len_seq (by rfl) T.len PySem.boot_len (pa_cons (pv 1) pa_nil)) pe_int) pa_nil))))
        (pss_cons (ps_set (i := 4) scLawOdd.nd rfl (Or.inl rfl) (pe_lst (pa_cons (pe_op op_catA (pe_slice sl_tupA (pv 1) po_none (po_some (pv 3))) (pe_slice sl_tupA (pv 1) (po_some (pe_op op_add (pv 3) pe_int)) po_none)) (pa_cons (pe_op op_catA (pe_op op_catA (pe_slice sl_tupA (pv 1) po_none (po_some (pv 3))) (pe_slice sl_tupA (pv 1) (po_some (pv 3)) (po_some (pe_op op_add (pv 3) pe_int)))) (pe_slice sl_tupA (pv 1) (po_some (pv 3)) po_none)) (pa_cons (pe_revT (pv 1)) (pa_cons (pe_callTy call_list_of (by rfl) T.list (by decide +kernel) (pa_cons (pv 1) pa_nil)) (pa_cons (pe_op op_catA (pv 1) (pe_tup (pa_cons pe_non pa_nil))) (pa_cons (pe_tup pa_nil) pa_nil))))))))
        (pss_one (ps_ret (pe_fn hLawPick (hr.mono (by decide)) (by rfl) (pa_cons (pv 0) (pa_cons (pv 4) pa_nil)))))))
        pss_nil)
      (pss_cons (ps_if (PW.pt (pw_and (pt_val (pe_callB call_isi (by rfl) T.isinstance (by decide +kernel) (pa_cons (pv 1) (pa_cons (pe_bltn (v := .ty "str") (by rfl) T.str (by decide +kernel) rfl) pa_nil)))) (pw_and1 (pt_cmpR op_gt (pe_fn hLawTake (hr.mono (by decide)) (by rfl) (pa_cons (pv 0) (pa_cons pe_int pa_nil))) pe_int (nomark _)))))
        (pss_one (ps_ret (pe_fn hLawPick (hr.mono (by decide)) (by rfl) (pa_cons (pv 0) (pa_cons (pe_op op_cat (pv 2) (pe_lst (pa_cons pe_str (pa_cons pe_str (pa_cons pe_str (pa_cons pe_str (pa_cons pe_str (pa_cons (pe_op op_add_str (pv 1) pe_str) (pa_cons (pe_tup (pa_cons (pv 1) pa_nil)) (pa_cons pe_str (pa_cons pe_str (pa_cons pe_str pa_nil)))))))))))) pa_nil)))))
        pss_nil)
      (pss_cons (ps_if (PW.pt (pw_and (pt_val (pe_callB call_isi (by rfl) T.isinstance (by decide +kernel) (pa_cons (pv 1) (pa_cons (pe_bltn (v := .ty "int") (by rfl) T.int (by decide +kernel) rfl) pa_nil)))) (pw_and (pt_not (pt_val (pe_callB call_isi (by rfl) T.isinstance (by decide +kernel) (pa_cons (pv 1) (pa_cons (pe_bltn (v := .ty "bool") (by rfl) T.bool (by decide +kernel) rfl) pa_nil))))) (pw_and1 (pt_cmpR op_gt (pe_fn hLawTake (hr.mono (by decide)) (by rfl) (pa_cons (pv 0) (pa_cons pe_int pa_nil))) pe_int (nomark _))))))
        (pss_one (ps_ret (pe_fn hLawPick (hr.mono (by decide)) (by rfl) (pa_cons (pv 0) (pa_cons (pe_lst (pa_cons (pe_op op_add (pv 1) pe_int) (pa_cons (pe_op op_sub (pv 1) pe_int) (pa_cons (pe_un un_neg pe_int) (pa_cons pe_int (pa_cons pe_int (pa_cons pe_bl (pa_cons pe_bl (pa_cons (pe_callTy call_str_int (by rfl) T.str (by decide +kernel) (pa_cons (pv 1) pa_nil)) pa_nil))))))))) pa_nil)))))
        pss_nil)
      (pss_one (ps_ret (pe_fn hLawPick (hr.mono (by decide)) (by rfl) (pa_cons (pv 0) (pa_cons (pe_lst (pa_cons pe_non (pa_cons pe_int (pa_cons pe_bl (pa_cons pe_str (pa_cons (pe_tup pa_nil) (pa_cons (pe_lst pa_nil) (pa_cons pe_dnewK (pa_cons (pe_tup (pa_cons pe_str (pa_cons pe_int pa_nil))) (pa_cons (pe_tup (pa_cons pe_str (pa_cons pe_str pa_nil))) (pa_cons (pe_tup (pa_cons pe_non pa_nil)) (pa_cons (pe_un un_neg pe_int) pa_nil)))))))))))) pa_nil)))))))), ?_⟩
    have lv := dr.live
    refine (fun (rest : ∀ H1, (Draw H1 d w' c (t + 1) ∧ But d w' H H1) → (?G : Hp → Prop) H1) => ?first) ?second
    case first =>
      have r0 : Draw H d w' c (t + 1) ∧ But d w' H H := ⟨dr.mono (by omega), But.refl⟩
      have tyT : isTy "tuple" x = isTup x := isTup_ty x
      refine ⟨_, rfl, _, _, _, _, _, rfl, .ty "tuple", hd.unhid.ty, kit_ty (kit_tuple x), _, rfl, ?_⟩
      rw [tyT]
      cases x with
      | tuple ds =>
        refine iteT ⟨_, rfl, d, w', c, t, 3, rfl, dr, by omega, by decide, by decide, fun n H1 n0 n3 dr1 b1 => ⟨_, _, rfl, rfl, _, rfl, ite2 (fun c1 => ?_) (fun c1 => ?_)⟩⟩
        · have hd1 := b1.fr.dx hd
          obtain ⟨a, xs, rfl, t1⟩ := hd1.tupD
          have lx := t1.len
          have wds : wt (.tuple ds) = 1 + wtA ds := rfl
          have lds := wtA_len ds
          refine ⟨_, rfl, _, rfl, a, xs, rfl, .inr (Dx.sameT hid_same t1.at_), _, _, rfl, rfl, d, w', c, t + 1, (xs.length : Int) + 1, rfl, dr1, by omega, by omega, by omega, fun i H2 i0 il dr2 b2 => ?_⟩
          obtain ⟨n, rfl⟩ := Int.eq_ofNat_of_zero_le i0
          have t2 : TupD K (hidS [d, w'] H2) a xs ds := b2.fr.tupD t1
          have hn : n ≤ ds.length := by omega
          show tSeq _ _ _ ([some (.ref d), some (.ref a), some (.ref nm), some (.int (n : Nat)), none] : L2.St) _
          have l2 := dr2.live
          refine ⟨_, rfl, ?_⟩
          unfold tNoPart
          refine ⟨_, rfl, _, rfl, slH_to n l2 t2 fun q1 G1 g1 u1 => ?_⟩
          have s1 := g1
          refine ⟨_, rfl, _, rfl, _, _, rfl, rfl, _, rfl, slH_from (n + 1) (l2.same s1) (t2.same (Fr.of s1)) fun q2 G2 g2 u2 => ?_⟩
          have s2 := s1.trans g2
          refine cat_h (l2.same s2) (u1.same (Fr.of g2)) u2 (by rw [List.length_take, List.length_drop]; omega) fun q3 z3 G3 g3 u3 => ?_
          have s3 := s2.trans g3
          refine ⟨_, rfl, _, rfl, _, rfl, slH_to n (l2.same s3) (t2.same (Fr.of s3)) fun q4 G4 g4 u4 => ?_⟩
          have s4 := s3.trans g4
          refine ⟨_, rfl, _, rfl, _, rfl, _, rfl, _, _, rfl, rfl, _, rfl, slH_one n (l2.same s4) (t2.same (Fr.of s4)) fun q5 G5 g5 u5 => ?_⟩
          have s5 := s4.trans g5
          refine cat_h (l2.same s5) (u4.same (Fr.of g5)) u5 (by rw [List.length_take, List.length_take, List.length_drop]; omega) fun q6 z6 G6 g6 u6 => ?_
          have s6 := s5.trans g6
          refine ⟨_, rfl, _, rfl, _, rfl, slH_from n (l2.same s6) (t2.same (Fr.of s6)) fun q7 G7 g7 u7 => ?_⟩
          have s7 := s6.trans g7
          refine cat_h (l2.same s7) (u6.same (Fr.of g7)) u7 (by rw [List.length_append, List.length_take, List.length_take, List.length_drop]; omega) fun q8 z8 G8 g8 u8 => ?_
          have s8 := s7.trans g8
          refine ⟨_, rfl, a, xs, rfl, Dx.sameT (hid_same.trans s8) t2.at_, fun q9 h9 => ?_⟩
          have g9 : Same G8 (upd G8 q9 (.tup xs.reverse)) := snew h9
          have u9 : TupD K (hidS [d, w'] (upd G8 q9 (.tup xs.reverse))) q9 xs.reverse ds.reverse := newH (l2.same s8) h9 (t2.same (Fr.of s8)).all.rev
          generalize upd G8 q9 (.tup xs.reverse) = G9 at g9 u9 ⊢
          have s9 := s8.trans g9
          refine ⟨_, rfl, a, xs, rfl, .inr (Dx.sameT (hid_same.trans s9) t2.at_), fun q10 h10 => ?_⟩
          have g10 : Same G9 (upd G9 q10 (.lst xs)) := snew h10
          have e10 : hidS [d, w'] (upd G9 q10 (.lst xs)) q10 = some (.lst xs) := hid_of ((l2.same s9).out h10) upd_same
          generalize upd G9 q10 (.lst xs) = G10 at g10 e10 ⊢
          have s10 := s9.trans g10
          refine ⟨_, rfl, by show 1 ≤ sizeLine; decide, fun q11 h11 => ?_⟩
          have g11 : Same G10 (upd G10 q11 (.tup [.non])) := snew h11
          have u11 : TupD K (hidS [d, w'] (upd G10 q11 (.tup [.non]))) q11 [.non] [.none] := newH (l2.same s10) h11 (.cons .non .nil)
          generalize upd G10 q11 (.tup [.non]) = G11 at g11 u11 ⊢
          have s11 := s10.trans g11
          refine cat_h (l2.same s11) (t2.same (Fr.of s11)) u11 (by simp only [List.length_cons, List.length_nil]; omega) fun q12 z12 G12 g12 u12 => ?_
          have s12 := s11.trans g12
          refine ⟨by show 0 ≤ sizeLine; exact Nat.zero_le _, fun q13 h13 => ?_⟩
          have g13 : Same G12 (upd G12 q13 (.tup [])) := snew h13
          have u13 : TupD K (hidS [d, w'] (upd G12 q13 (.tup []))) q13 [] [] := newH (l2.same s12) h13 .nil
          generalize upd G12 q13 (.tup []) = G13 at g13 u13 ⊢
          have s13 := s12.trans g13
          refine ⟨by show 6 ≤ sizeLine; decide, fun l hl => ?_⟩
          have gl : Same G13 (upd G13 l (.lst [.ref q3, .ref q8, .ref q9, .ref q10, .ref q12, .ref q13])) := snew hl
          have el : (upd G13 l (.lst [.ref q3, .ref q8, .ref q9, .ref q10, .ref q12, .ref q13])) l = some (.lst [.ref q3, .ref q8, .ref q9, .ref q10, .ref q12, .ref q13]) := upd_same
          have lout := (l2.same s13).out hl
          simp only [List.mem_cons, List.not_mem_nil, or_false, not_or] at lout
          generalize upd G13 l (.lst [.ref q3, .ref q8, .ref q9, .ref q10, .ref q12, .ref q13]) = G14 at gl el ⊢
          have s14 := s13.trans gl
          have all : DxAll K (hidS [d, w'] G14) [.ref q3, .ref q8, .ref q9, .ref q10, .ref q12, .ref q13]
              [.tuple (ds.take n ++ ds.drop (n + 1)), .tuple ((ds.take n ++ (ds.drop n).take 1) ++ ds.drop n), .tuple ds.reverse, .list ds, .tuple (ds ++ [.none]), .tuple []] :=
            .cons (u3.same (Fr.of (g4.trans (g5.trans (g6.trans (g7.trans (g8.trans (g9.trans (g10.trans (g11.trans (g12.trans (g13.trans gl)))))))))))).dx
            (.cons (u8.same (Fr.of (g9.trans (g10.trans (g11.trans (g12.trans (g13.trans gl))))))).dx
            (.cons (u9.same (Fr.of (g10.trans (g11.trans (g12.trans (g13.trans gl)))))).dx
            (.cons (.lst (SqL.of (Fr.of (g11.trans (g12.trans (g13.trans gl))) _ _ e10)) (t2.same (Fr.of s14)).all)
            (.cons (u12.same (Fr.of (g13.trans gl))).dx (.cons (u13.same (Fr.of gl)).dx .nil)))))
          refine ⟨_, rfl, _, rfl, d, w', c, l, t + 1 + 1, _, rfl, dr2.same s14, by omega, SqL.of el, lout.1, lout.2, by simp, by show 6 < 1073741824; decide, fun u H3 mu dr3 b3 => ?_⟩
          obtain ⟨y, my, hy⟩ := DxAll.mem all mu
          refine k u y H3 (dr3.mono (by omega)) ((b1.trans b2).trans ((But.of s14).trans b3)) (b3.fr.dx hy) ?_
          have w1 := wtA_take ds n
          have w2 := wtA_take (ds.drop n) 1
          rw [List.drop_drop] at w2
          simp only [List.mem_cons, List.not_mem_nil, or_false] at my
          rcases my with rfl | rfl | rfl | rfl | rfl | rfl
          · exact odd_sub ha (fun e he => (List.mem_append.mp he).elim List.mem_of_mem_take List.mem_of_mem_drop) (by rw [wtA_app]; omega)
          · exact odd_sub ha (fun e he => (List.mem_append.mp he).elim (fun q => (List.mem_append.mp q).elim List.mem_of_mem_take fun z => List.mem_of_mem_drop (List.mem_of_mem_take z)) List.mem_of_mem_drop) (by rw [wtA_app, wtA_app]; omega)
          · exact odd_sub ha (fun e he => List.mem_reverse.mp he) (by rw [wtA_rev]; omega)
          · exact ⟨ha, by show 1 + wtA ds ≤ 2 * (1 + wtA ds) + 30; omega, by show PyData.depthAll ds + 1 ≤ PyData.depthAll ds + 1 + 2; omega⟩
          · refine ⟨asc_tup' fun e he => (List.mem_append.mp he).elim (asc_mem ha) fun z => by rw [List.mem_singleton.mp z]; rfl, ?_, ?_⟩
            · show 1 + wtA (ds ++ [.none]) ≤ 2 * (1 + wtA ds) + 30
              rw [wtA_app]
              simp only [wtA, wt]
              omega
            · show PyData.depthAll (ds ++ [.none]) + 1 ≤ PyData.depthAll ds + 1 + 2
              rw [depthAll_app]
              show max _ (max 0 0) + 1 ≤ _
              omega
          · exact odd_sub ha (fun e he => nomatch he) (by simp [wtA])
        · refine ⟨_, rfl, _, _, _, _, _, rfl, .ty "str", (b1.fr.dx hd).unhid.ty, kit_ty (kit_str _), _, rfl, iteF ⟨_, rfl, _, _, _, _, _, rfl, .ty "int", (b1.fr.dx hd).unhid.ty, kit_ty (kit_int _), _, rfl, iteF ?_⟩⟩
          exact rest H1 ⟨dr1, b1⟩
      | str z =>
        refine iteF ⟨_, rfl, _, _, _, _, _, rfl, .ty "str", hd.unhid.ty, kit_ty (kit_str _), _, rfl, iteT ⟨_, rfl, d, w', c, t, 3, rfl, dr, by omega, by decide, by decide, fun n H1 n0 n3 dr1 b1 => ⟨_, _, rfl, rfl, _, rfl, ite2 (fun c1 => ?_) (fun c1 => ?_)⟩⟩⟩
        · cases hd
          have lz : z.length ≤ 40000 := by
            have : wt (.str z) = 1 + z.length := rfl
            omega
          refine ⟨_, rfl, _, rfl, _, rfl, z, "x", rfl, rfl, by rw [show ("x" : Str).length = 1 by decide +kernel, sizeLine_eq]; omega, _, rfl, by show 1 ≤ sizeLine; decide, fun q hq => ?_⟩
          have s1 : Same H1 (upd H1 q (.tup [.str z])) := snew hq
          have lv1 := dr1.live
          have u1 : TupD K (hidS [d, w'] (upd H1 q (.tup [.str z]))) q [.str z] [.str z] := newH lv1 hq (.cons (.str z) .nil)
          generalize upd H1 q (.tup [.str z]) = G1 at s1 u1 ⊢
          refine ⟨by show 10 ≤ sizeLine; decide, fun l hl => ?_⟩
          have s2 : Same G1 (upd G1 l (.lst [.str "", .str "Abc", .str "a1", .str "call", .str "abcdefghi", .str (z ++ "x"), .ref q, .str "left", .str "up", .str "none"])) := snew hl
          have e2 : (upd G1 l (.lst [.str "", .str "Abc", .str "a1", .str "call", .str "abcdefghi", .str (z ++ "x"), .ref q, .str "left", .str "up", .str "none"])) l = some (.lst [.str "", .str "Abc", .str "a1", .str "call", .str "abcdefghi", .str (z ++ "x"), .ref q, .str "left", .str "up", .str "none"]) := upd_same
          generalize upd G1 l (.lst [.str "", .str "Abc", .str "a1", .str "call", .str "abcdefghi", .str (z ++ "x"), .ref q, .str "left", .str "up", .str "none"]) = G2 at s2 e2 ⊢
          have s12 := s1.trans s2
          have hnm2 := s12 _ _ (b1 _ _ hnm nd nw)
          refine ⟨nm, l, _, _, rfl, rfl, hnm2, e2, ?_, fun l2 hl2 => ?_⟩
          · rw [List.length_map, sizeLine_eq]
            simp only [List.length_cons, List.length_nil]
            omega
          have s3 : Same G2 (upd G2 l2 (.lst (names.map V.str ++ [.str "", .str "Abc", .str "a1", .str "call", .str "abcdefghi", .str (z ++ "x"), .ref q, .str "left", .str "up", .str "none"]))) := snew hl2
          have s13 := s12.trans s3
          have lout := (lv1.same s12).out hl2
          simp only [List.mem_cons, List.not_mem_nil, or_false, not_or] at lout
          have all : DxAll K (hidS [d, w'] (upd G2 l2 (.lst (names.map V.str ++ [.str "", .str "Abc", .str "a1", .str "call", .str "abcdefghi", .str (z ++ "x"), .ref q, .str "left", .str "up", .str "none"])))) (names.map V.str ++ [.str "", .str "Abc", .str "a1", .str "call", .str "abcdefghi", .str (z ++ "x"), .ref q, .str "left", .str "up", .str "none"]) (names.map PyData.str ++ strOdd z) :=
            DxAll.app (dx_strs' names) (.cons (.str _) (.cons (.str _) (.cons (.str _) (.cons (.str _) (.cons (.str _) (.cons (.str _) (.cons (u1.same (Fr.of (s2.trans s3))).dx (.cons (.str _) (.cons (.str _) (.cons (.str _) .nil))))))))))
          refine ⟨d, w', c, l2, t + 1, _, rfl, dr1.same s13, by omega, SqL.of upd_same, lout.1, lout.2, by simp, ?_, fun u H3 mu dr3 b3 => ?_⟩
          · rw [List.length_append, List.length_map]
            simp only [List.length_cons, List.length_nil]
            omega
          obtain ⟨y, my, hy⟩ := DxAll.mem all mu
          exact k u y H3 (dr3.mono (by omega)) (b1.trans ((But.of s13).trans b3)) (b3.fr.dx hy) (str_odd ha nA y my)
        · refine ⟨_, rfl, _, _, _, _, _, rfl, .ty "int", (b1.fr.dx hd).unhid.ty, kit_ty (kit_int _), _, rfl, iteF ?_⟩
          exact rest H1 ⟨dr1, b1⟩
      | int i =>
        refine iteF ⟨_, rfl, _, _, _, _, _, rfl, .ty "str", hd.unhid.ty, kit_ty (kit_str _), _, rfl, iteF ⟨_, rfl, _, _, _, _, _, rfl, .ty "int", hd.unhid.ty, kit_ty (kit_int _), _, rfl, iteT ⟨_, rfl, _, _, _, _, _, rfl, .ty "bool", hd.unhid.ty, kit_ty (kit_bool _), _, rfl, iteT ⟨_, rfl, d, w', c, t, 3, rfl, dr, by omega, by decide, by decide, fun n H1 n0 n3 dr1 b1 => ⟨_, _, rfl, rfl, _, rfl, ite2 (fun c1 => ?_) (fun c1 => ?_)⟩⟩⟩⟩⟩
        · cases hd
          have li : i.natAbs ≤ 40000 := by
            have : wt (.int i) = 1 + i.natAbs := rfl
            omega
          refine ⟨_, rfl, _, rfl, _, _, rfl, rfl, _, rfl, _, _, rfl, rfl, 1, rfl, _, rfl, i, rfl, ?_, by show 8 ≤ sizeLine; decide, fun l hl => ?_⟩
          · by_cases z : i.natAbs = 0
            · rw [z]
              decide
            · exact Nat.lt_trans ((Nat.log2_lt z).mpr (show i.natAbs < 2 ^ 20 by omega)) (by decide)
          have s1 : Same H1 (upd H1 l (.lst [.int (i + 1), .int (i - 1), .int (-1), .int 0, .int 1, .bl true, .bl false, .str (Str.ofString (toString i))])) := snew hl
          have lout := dr1.live.out hl
          simp only [List.mem_cons, List.not_mem_nil, or_false, not_or] at lout
          have all : ∀ G, DxAll K G [.int (i + 1), .int (i - 1), .int (-1), .int 0, .int 1, .bl true, .bl false, .str (Str.ofString (toString i))] (intOdd i) := fun G =>
            .cons (.int _) (.cons (.int _) (.cons (.int _) (.cons (.int _) (.cons (.int _) (.cons (.bl _) (.cons (.bl _) (.cons (.str _) .nil)))))))
          refine ⟨d, w', c, l, t + 1, _, rfl, dr1.same s1, by omega, SqL.of upd_same, lout.1, lout.2, by simp, by show 8 < 1073741824; decide, fun u H3 mu dr3 b3 => ?_⟩
          obtain ⟨y, my, hy⟩ := DxAll.mem (all (hidS [d, w'] H3)) mu
          exact k u y H3 (dr3.mono (by omega)) (b1.trans ((But.of s1).trans b3)) hy (int_odd i y my)
        · exact rest H1 ⟨dr1, b1⟩
      | bool b =>
        refine iteF ⟨_, rfl, _, _, _, _, _, rfl, .ty "str", hd.unhid.ty, kit_ty (kit_str _), _, rfl, iteF ⟨_, rfl, _, _, _, _, _, rfl, .ty "int", hd.unhid.ty, kit_ty (kit_int _), _, rfl, iteT ⟨_, rfl, _, _, _, _, _, rfl, .ty "bool", hd.unhid.ty, kit_ty (kit_bool _), _, rfl, iteF ?_⟩⟩⟩
        exact rest H r0
      | none =>
        refine iteF ⟨_, rfl, _, _, _, _, _, rfl, .ty "str", hd.unhid.ty, kit_ty (kit_str _), _, rfl, iteF ⟨_, rfl, _, _, _, _, _, rfl, .ty "int", hd.unhid.ty, kit_ty (kit_int _), _, rfl, iteF ?_⟩⟩
        exact rest H r0
      | list ds =>
        refine iteF ⟨_, rfl, _, _, _, _, _, rfl, .ty "str", hd.unhid.ty, kit_ty (kit_str _), _, rfl, iteF ⟨_, rfl, _, _, _, _, _, rfl, .ty "int", hd.unhid.ty, kit_ty (kit_int _), _, rfl, iteF ?_⟩⟩
        exact rest H r0
      | dict ds =>
        refine iteF ⟨_, rfl, _, _, _, _, _, rfl, .ty "str", hd.unhid.ty, kit_ty (kit_str _), _, rfl, iteF ⟨_, rfl, _, _, _, _, _, rfl, .ty "int", hd.unhid.ty, kit_ty (kit_int _), _, rfl, iteF ?_⟩⟩
        exact rest H r0
    case second =>
    rintro H1 ⟨dr1, b1⟩
    have l1 := dr1.live
    have new : ∀ {Ha Hb : Hp} {p : Addr} {o : HO}, Same H1 Ha → Ha p = none → Same (upd Ha p o) Hb → hidS [d, w'] Hb p = some o := fun {Ha Hb p o} s hp s2 => hid_of ((l1.same s).out hp) (s2 _ _ upd_same)
    refine ⟨_, rfl, by show 0 ≤ sizeLine; exact Nat.zero_le _, fun p1 h1 => ?_⟩
    have s1 : Same H1 (upd H1 p1 (.tup [])) := snew h1
    have e1 := fun (Hb : Hp) (s : Same (upd H1 p1 (.tup [])) Hb) => new rsame h1 s
    generalize upd H1 p1 (.tup []) = G1 at s1 e1 ⊢
    refine ⟨by show 0 ≤ sizeLine; exact Nat.zero_le _, fun p2 h2 => ?_⟩
    have s2 : Same G1 (upd G1 p2 (.lst [])) := snew h2
    have e2 := fun (Hb : Hp) (s : Same (upd G1 p2 (.lst [])) Hb) => new s1 h2 s
    generalize upd G1 p2 (.lst []) = G2 at s2 e2 ⊢
    refine fun p3 h3 => ?_
    have s3 : Same G2 (upd G2 p3 (.dK [])) := snew h3
    have e3 := fun (Hb : Hp) (s : Same (upd G2 p3 (.dK [])) Hb) => new (s1.trans s2) h3 s
    generalize upd G2 p3 (.dK []) = G3 at s3 e3 ⊢
    refine ⟨by show 2 ≤ sizeLine; decide, fun p4 h4 => ?_⟩
    have s4 : Same G3 (upd G3 p4 (.tup [.str "number", .int 1])) := snew h4
    have e4 := fun (Hb : Hp) (s : Same (upd G3 p4 (.tup [.str "number", .int 1])) Hb) => new ((s1.trans s2).trans s3) h4 s
    generalize upd G3 p4 (.tup [.str "number", .int 1]) = G4 at s4 e4 ⊢
    refine ⟨by show 2 ≤ sizeLine; decide, fun p5 h5 => ?_⟩
    have s5 : Same G4 (upd G4 p5 (.tup [.str "name", .str "zzzzzzzz"])) := snew h5
    have e5 := fun (Hb : Hp) (s : Same (upd G4 p5 (.tup [.str "name", .str "zzzzzzzz"])) Hb) => new (((s1.trans s2).trans s3).trans s4) h5 s
    generalize upd G4 p5 (.tup [.str "name", .str "zzzzzzzz"]) = G5 at s5 e5 ⊢
    refine ⟨by show 1 ≤ sizeLine; decide, fun p6 h6 => ?_⟩
    have s6 : Same G5 (upd G5 p6 (.tup [.non])) := snew h6
    have e6 := fun (Hb : Hp) (s : Same (upd G5 p6 (.tup [.non])) Hb) => new ((((s1.trans s2).trans s3).trans s4).trans s5) h6 s
    generalize upd G5 p6 (.tup [.non]) = G6 at s6 e6 ⊢
    refine ⟨1, rfl, by show 11 ≤ sizeLine; decide, fun l hl => ?_⟩
    have s7 : Same G6 (upd G6 l (.lst [.non, .int 5, .bl true, .str "zzzzzzzz", .ref p1, .ref p2, .ref p3, .ref p4, .ref p5, .ref p6, .int (-1)])) := snew hl
    have g1 := e1 _ (s2.trans (s3.trans (s4.trans (s5.trans (s6.trans s7)))))
    have g2 := e2 _ (s3.trans (s4.trans (s5.trans (s6.trans s7))))
    have g3 := e3 _ (s4.trans (s5.trans (s6.trans s7)))
    have g4 := e4 _ (s5.trans (s6.trans s7))
    have g5 := e5 _ (s6.trans s7)
    have g6 := e6 _ s7
    have s17 := s1.trans (s2.trans (s3.trans (s4.trans (s5.trans (s6.trans s7)))))
    have s16 := s1.trans (s2.trans (s3.trans (s4.trans (s5.trans s6))))
    have dr6 := dr1.same s16
    have l6 := dr6.live
    have lout := l6.out hl
    simp only [List.mem_cons, List.not_mem_nil, or_false, not_or] at lout
    have all : DxAll K (hidS [d, w'] (upd G6 l (.lst [.non, .int 5, .bl true, .str "zzzzzzzz", .ref p1, .ref p2, .ref p3, .ref p4, .ref p5, .ref p6, .int (-1)]))) [.non, .int 5, .bl true, .str "zzzzzzzz", .ref p1, .ref p2, .ref p3, .ref p4, .ref p5, .ref p6, .int (-1)] anyOdd :=
      .cons .non (.cons (.int 5) (.cons (.bl true) (.cons (.str _) (.cons (.tup (SqT.of g1) .nil) (.cons (.lst (SqL.of g2) .nil) (.cons (.dct g3 .nil) (.cons (.tup (SqT.of g4) (.cons (.str _) (.cons (.int 1) .nil))) (.cons (.tup (SqT.of g5) (.cons (.str _) (.cons (.str _) .nil))) (.cons (.tup (SqT.of g6) (.cons .non .nil)) (.cons (.int (-1)) .nil))))))))))
    refine ⟨d, w', c, l, t + 1, _, rfl, dr1.same s17, by omega, SqL.of upd_same, lout.1, lout.2, by simp, by show 11 < 1073741824; decide, fun u H2 mu dr2 b2 => ?_⟩
    obtain ⟨y, my, hy⟩ := DxAll.mem all mu
    exact k u y H2 (dr2.mono (by omega)) (b1.trans ((But.of s17).trans b2)) (b2.fr.dx hy) (any_odd x y my)
end
end Any
set_option Elab.async false
set_option linter.all false
set_option maxRecDepth 100000
set_option maxHeartbeats 4000000
/-! A thing bent in one part. -/
namespace Any
open PySem PySem.Spec PyProof.Rows L2 RT
open He (ga ma)
/-! ### the mathematics -/
theorem put_asc : ∀ {p : List Nat} {d x y : PyData}, atD d p = some x → asc d = true → asc y = true → asc (putD d p y) = true
  | [], _, _, _, _, _, h => h
  | i :: p, d, x, y, hx, hd, hy => by
    cases d with
    | tuple ds =>
      have hx' : (match ds[i]? with | some x => atD x p | none => none) = some x := hx
      cases e : ds[i]? with
      | none => rw [e] at hx'; cases hx'
      | some u =>
        rw [e] at hx'
        have gd : ds.getD i .none = u := by rw [List.getD_eq_getElem?_getD, e]; rfl
        show asc (.tuple ((ds.take i ++ [putD (ds.getD i .none) p y]) ++ ds.drop (i + 1))) = true
        refine asc_tup' fun z hz => ?_
        rcases List.mem_append.mp hz with hz | hz
        · rcases List.mem_append.mp hz with hz | hz
          · exact asc_mem hd (List.mem_of_mem_take hz)
          · rw [List.mem_singleton.mp hz, gd]
            exact put_asc hx' (asc_mem hd (List.mem_of_getElem? e)) hy
        · exact asc_mem hd (List.mem_of_mem_drop hz)
    | _ => cases hx
theorem split_at {ds : List PyData} {i : Nat} {u : PyData} (e : ds[i]? = some u) : wtA (ds.take i) + wt u + wtA (ds.drop (i + 1)) = wtA ds := by
  have li := (List.getElem?_eq_some_iff.mp e).1
  have h1 := wtA_take ds i
  rw [List.drop_eq_getElem_cons li] at h1
  have : ds[i] = u := Option.some.inj (by rw [← List.getElem?_eq_getElem li, e])
  rw [this] at h1
  simp only [wtA] at h1
  omega
theorem at_wt : ∀ {p : List Nat} {d x : PyData}, atD d p = some x → wt x ≤ wt d
  | [], _, _, h => by cases Option.some.inj h; exact Nat.le_refl _
  | i :: p, d, x, h => by
    cases d with
    | tuple ds =>
      have h' : (match ds[i]? with | some x => atD x p | none => none) = some x := h
      cases e : ds[i]? with
      | none => rw [e] at h'; cases h'
      | some u =>
        rw [e] at h'
        have h1 := at_wt h'
        have h2 := wtA_mem (List.mem_of_getElem? e)
        show wt x ≤ 1 + wtA ds
        omega
    | _ => cases h
theorem at_asc : ∀ {p : List Nat} {d x : PyData}, atD d p = some x → asc d = true → asc x = true
  | [], _, _, h, a => by cases Option.some.inj h; exact a
  | i :: p, d, x, h, a => by
    cases d with
    | tuple ds =>
      have h' : (match ds[i]? with | some x => atD x p | none => none) = some x := h
      cases e : ds[i]? with
      | none => rw [e] at h'; cases h'
      | some u =>
        rw [e] at h'
        exact at_asc h' (asc_mem a (List.mem_of_getElem? e))
    | _ => cases h
theorem put_wt : ∀ {p : List Nat} {d x y : PyData}, atD d p = some x → wt (putD d p y) + wt x = wt d + wt y
  | [], d, x, y, h => by
    cases Option.some.inj h
    show wt y + wt d = wt d + wt y
    omega
  | i :: p, d, x, y, h => by
    cases d with
    | tuple ds =>
      have h' : (match ds[i]? with | some x => atD x p | none => none) = some x := h
      cases e : ds[i]? with
      | none => rw [e] at h'; cases h'
      | some u =>
        rw [e] at h'
        have gd : ds.getD i .none = u := by rw [List.getD_eq_getElem?_getD, e]; rfl
        have h1 := put_wt (y := y) h'
        have h2 := split_at e
        show (1 + wtA ((ds.take i ++ [putD (ds.getD i .none) p y]) ++ ds.drop (i + 1))) + wt x = (1 + wtA ds) + wt y
        rw [gd, wtA_app, wtA_app]
        simp only [wtA]
        omega
    | _ => cases h
theorem put_dep : ∀ {p : List Nat} {d x y : PyData} {k : Nat}, atD d p = some x → y.depth ≤ x.depth + k → (putD d p y).depth ≤ d.depth + k
  | [], d, x, y, k, h, hy => by
    cases Option.some.inj h
    exact hy
  | i :: p, d, x, y, k, h, hy => by
    cases d with
    | tuple ds =>
      have h' : (match ds[i]? with | some x => atD x p | none => none) = some x := h
      cases e : ds[i]? with
      | none => rw [e] at h'; cases h'
      | some u =>
        rw [e] at h'
        have gd : ds.getD i .none = u := by rw [List.getD_eq_getElem?_getD, e]; rfl
        have h1 := put_dep h' hy
        have h2 := Exq.depth_mem (List.mem_of_getElem? e)
        show PyData.depthAll ((ds.take i ++ [putD (ds.getD i .none) p y]) ++ ds.drop (i + 1)) + 1 ≤ PyData.depthAll ds + 1 + k
        rw [gd, depthAll_app, depthAll_app]
        have a1 := depthAll_of (xs := ds.take i) (n := PyData.depthAll ds) fun z hz => Exq.depth_mem (List.mem_of_mem_take hz)
        have a2 := depthAll_of (xs := ds.drop (i + 1)) (n := PyData.depthAll ds) fun z hz => Exq.depth_mem (List.mem_of_mem_drop hz)
        have a3 : PyData.depthAll [putD u p y] = max (putD u p y).depth 0 := rfl
        omega
    | _ => cases h
theorem put_odd {p : List Nat} {d x y : PyData} (h : atD d p = some x) (a : asc d = true) (o : Odd x y) : Odd d (putD d p y) := by
  have h1 := put_wt (y := y) h
  have h2 := at_wt h
  have h3 := o.wt
  exact ⟨put_asc h a o.asc, by omega, put_dep h o.dep⟩
def spPartH (K : PySem.W.Frag) : Sp := fun vs H Q _ => ∃ S v d pa pxs p x, vs = [v, .ref pa] ∧ Dx K (hidS S H) v d ∧ TupD K H pa pxs (p.map fun (i : Nat) => PyData.int i) ∧ atD d p = some x ∧ ∀ w, Dx K (hidS S H) w x → Q w H
def spPutH (K : PySem.W.Frag) (n : Nat) : Sp := fun vs H Q _ => ∃ S v d pa pxs p x w y, vs = [v, .ref pa, w] ∧ Live S H ∧ Dx K (hidS S H) v d ∧ TupD K H pa pxs (p.map fun (i : Nat) => PyData.int i) ∧ atD d p = some x ∧ p.length < n ∧ p.length ≤ 1000 ∧ wt d ≤ 100000 ∧ Dx K (hidS S H) w y ∧
  ∀ u H', Same H H' → Dx K (hidS S H') u (putD d p y) → Q u H'
section
variable {P : Program} {w : World} {K : PySem.W.Frag} {mg : Str → Option Value} {base : Heap}
theorem hLawPartH (D : DS K mg) (T : TF mg) : Has P w K mg base CX0 "_law_part_at" sLawPartAt ["thing", "path"] 1 (spPartH K) := by
  refine Has.mk0 D.aLawPartAt scLawPartAt (fun _ _ _ _ _ _ us hl => match us, hl with | [_, _], _ => rfl) (fun vs H Q E h => ?_) (fun cdv A outer s H vs Q E hr h => ?_)
  · obtain ⟨S, v, d, pa, pxs, p, x, rfl, _⟩ := h
    rfl
  · obtain ⟨S, v, d, pa, pxs, p, x, rfl, hd, tp, hx, k⟩ := h
    refine ⟨_, (pss_cons (ps_for PassesOwn.never rfl (pi_tup (pv 1)) (pg_name (i := 2) scLawPartAt.nd rfl (Or.inl rfl))
        (pss_one (ps_set (i := 0) scLawPartAt.nd rfl (Or.inl rfl) (pe_ix ix_tup (pv 0) (pv 2) (fun _ _ => rfl)))))
      (pss_one (ps_ret (pv 0)))), ?_⟩
    have ev := ints_vals tp.all
    have lp : pxs.length = p.length := by rw [ev, List.length_map]
    refine ⟨_, rfl, pa, rfl, ⟨_, tp.at_⟩, for_it (walk_tup (K := K) (a := pa) (xs := pxs)) (fun i σ Hc => ∃ w v2 y, σ = [some w, some (.ref pa), v2] ∧ Hc = H ∧ Dx K (hidS S H) w y ∧ atD y (p.drop i) = some x) ⟨v, none, d, rfl, rfl, hd, hx⟩ (fun _ _ _ _ ⟨_, _, _, _, e, _⟩ => by rw [e]; exact tp.at_) ?_ ?_⟩
    · rintro i z σ Hc Hc' hi ⟨w, v2, y, rfl, rfl, hw, hy⟩ ⟨rfl, hz⟩
      rw [ev, List.getElem?_map] at hz
      rw [lp] at hi
      rw [List.getElem?_eq_getElem hi] at hz
      cases Option.some.inj hz
      rw [List.drop_eq_getElem_cons hi] at hy
      generalize p[i] = j at *
      cases y with
      | tuple ds =>
        have hy' : (match ds[j]? with | some x => atD x (p.drop (i + 1)) | none => none) = some x := hy
        cases e : ds[j]? with
        | none => rw [e] at hy'; cases hy'
        | some u =>
          rw [e] at hy'
          obtain ⟨a, xs, rfl, t⟩ := hw.tupD
          obtain ⟨vj, ej, hj⟩ := t.get j e
          exact ⟨_, rfl, _, rfl, a, xs, _, vj, rfl, rfl, Dx.sameT hid_same t.at_, ej, vj, _, u, rfl, rfl, hj, hy'⟩
      | _ => cases hy
    · rintro σ Hc ⟨w, v2, y, rfl, rfl, hw, hy⟩
      rw [lp, List.drop_length] at hy
      cases Option.some.inj hy
      exact ⟨_, rfl, k w hw⟩
theorem hLawPutH (D : DS K mg) (T : TF mg) : ∀ n : Nat, Has P w K mg base CX0 "_law_put_at" sLawPutAt ["thing", "path", "part"] (n + 1) (spPutH K n) := by
  intro n
  induction n with
  | zero =>
    exact Has.mk0 D.aLawPutAt scLawPutAt (fun _ _ _ _ _ _ us hl => match us, hl with | [_, _, _], _ => rfl) (fun vs H Q E ⟨_, _, _, _, _, _, _, _, _, _, _, _, _, _, h, _⟩ => absurd h (Nat.not_lt_zero _)) (fun cdv A outer s H vs Q E hr ⟨_, _, _, _, _, _, _, _, _, _, _, _, _, _, h, _⟩ => absurd h (Nat.not_lt_zero _))
  | succ n ih =>
  have hLawPutAt : Has P w K mg base CX0 _ _ _ (n + 1) _ := ih
  refine Has.mk0 D.aLawPutAt scLawPutAt (fun _ _ _ _ _ _ us hl => match us, hl with | [_, _, _], _ => rfl) (fun vs H Q E h => ?_) (fun cdv A outer s H vs Q E hr h => ?_)
  · obtain ⟨S, v, d, pa, pxs, p, x, w, y, rfl, _⟩ := h
    rfl
  · obtain ⟨S, v, d, pa, pxs, p, x, w, y, rfl, lv, hd, tp, hx, hpn, hp1, hwt, hwy, k⟩ := h
    refine ⟨_, (pss_cons (ps_if (pt_cmpR (op_eqE (K := K) rfl hr.units) (pv 1) (pe_tup pa_nil) (nomark _))
        (pss_one (ps_ret (pv 2)))
        pss_nil)
      (pss_one (ps_ret (pe_op op_catA (pe_op op_catA (pe_slice sl_tupA (pv 0) po_none (po_some (pe_ix ix_tup (pv 1) pe_int (fun _ _ => rfl)))) (pe_tup (pa_cons (pe_fn hLawPutAt (hr.mono (by omega)) (by rfl) (pa_cons (pe_ix ix_tup (pv 0) (pe_ix ix_tup (pv 1) pe_int (fun _ _ => rfl)) (fun _ _ => rfl)) (pa_cons (pe_slice sl_tupA (pv 1) (po_some pe_int) po_none) (pa_cons (pv 2) pa_nil)))) pa_nil))) (pe_slice sl_tupA (pv 0) (po_some (pe_op op_add (pe_ix ix_tup (pv 1) pe_int (fun _ _ => rfl)) pe_int)) po_none))))), ?_⟩
    refine ⟨_, rfl, by show 0 ≤ sizeLine; exact Nat.zero_le _, fun e0 he0 => ?_⟩
    have s1 : Same H (upd H e0 (.tup [])) := snew he0
    have tp1 := tp.same s1
    refine ⟨pa, e0, pxs, rfl, rfl, .inl ⟨tp1.at_, SqT.of upd_same⟩, _, rfl, ?_⟩
    generalize upd H e0 (.tup []) = H1 at s1 tp1 ⊢
    have ev := ints_vals tp.all
    cases p with
    | nil =>
      subst ev
      exact iteT ⟨_, rfl, k w H1 s1 ((Fr.of s1).dx hwy)⟩
    | cons i p =>
      subst ev
      refine iteF ?_
      cases d with
      | tuple ds =>
        have hx' : (match ds[i]? with | some x => atD x p | none => none) = some x := hx
        cases e : ds[i]? with
        | none => rw [e] at hx'; cases hx'
        | some u =>
          rw [e] at hx'
          have gd : ds.getD i .none = u := by rw [List.getD_eq_getElem?_getD, e]; rfl
          have li := (List.getElem?_eq_some_iff.mp e).1
          have wds : wt (.tuple ds) = 1 + wtA ds := rfl
          have lds := wtA_len ds
          have wu := wtA_mem (List.mem_of_getElem? e)
          obtain ⟨a, xs, rfl, t⟩ := hd.tupD
          obtain ⟨vj, ej, hj⟩ := t.get i e
          have ei : atI (((i :: p).map fun (i : Nat) => V.int i)) (0 : Int) = some (V.int i) := atI_nat (j := 0) rfl
          refine ⟨_, rfl, ?_⟩
          unfold tNoPart
          refine ⟨_, rfl, pa, _, _, _, rfl, rfl, tp1.at_, ei, _, rfl, slH_to i (lv.same s1) (t.same (Fr.of s1)) fun p1 H2 s2 tl => ?_⟩
          have s02 := s1.trans s2
          have tp2 := tp.same s02
          refine ⟨_, rfl, _, rfl, pa, _, _, _, rfl, rfl, tp2.at_, ei, a, xs, _, vj, rfl, rfl, Dx.sameT (hid_same.trans s02) t.at_, ej, _, rfl, _, rfl, slA_from (k := 1) tp2.at_ fun p2 H3 s3 e3 => ?_⟩
          have s03 := s02.trans s3
          have tp3 : TupD K H3 p2 (p.map fun (i : Nat) => V.int i) (p.map fun (i : Nat) => PyData.int i) := ⟨e3, by have := (tp.same s03).all.drop 1; exact this⟩
          rw [List.length_cons] at hpn hp1
          refine ⟨_, rfl, S, vj, u, p2, _, p, x, w, y, rfl, lv.same s03, (Fr.of s03).dx hj, tp3, hx', by omega, by omega, by omega, (Fr.of s03).dx hwy, fun u2 H4 s4 hu2 => ?_⟩
          refine ⟨by show 1 ≤ sizeLine; decide, fun q hq => ?_⟩
          have s04 := s03.trans s4
          have s5 : Same H4 (upd H4 q (.tup [u2])) := snew hq
          have tq := newH (lv.same s04) hq (.cons hu2 .nil)
          have s25 := s3.trans (s4.trans s5)
          refine cat_h (lv.same (s04.trans s5)) (tl.same (Fr.of s25)) tq ?_ fun p5 zs H6 s6 t6 => ?_
          · rw [List.length_take]
            simp only [List.length_cons, List.length_nil]
            omega
          have s06 := s02.trans (s25.trans s6)
          have tp6 := tp.same s06
          refine ⟨_, rfl, _, rfl, pa, _, _, _, rfl, rfl, tp6.at_, ei, _, _, rfl, rfl, _, rfl, ?_⟩
          refine slH_from (i + 1) (lv.same s06) (t.same (Fr.of s06)) fun p7 H7 s7 tr => ?_
          have s07 := s06.trans s7
          refine cat_h (lv.same s07) (t6.same (Fr.of s7)) tr ?_ fun p8 zs8 H8 s8 t8 => ?_
          · rw [List.length_append, List.length_take, List.length_drop]
            simp only [List.length_cons, List.length_nil]
            omega
          refine k (.ref p8) H8 (s07.trans s8) ?_
          show Dx K (hidS S H8) (.ref p8) (.tuple ((ds.take i ++ [putD (ds.getD i .none) p y]) ++ ds.drop (i + 1)))
          rw [gd]
          exact t8.dx
      | _ => cases hx
def spBent (K : PySem.W.Frag) : Sp := fun vs H Q _ => ∃ (d w c : Addr) (t : Int) (v : V) (x : PyData) (nm : Addr) (names : List Str), vs = [.ref d, v, .ref nm] ∧ Draw H d w c t ∧ t < 900000000 ∧ Dx K (hidS [d, w] H) v x ∧ asc x = true ∧ wt x ≤ 40000 ∧ x.depth ≤ 60 ∧ H nm = some (.lst (names.map V.str)) ∧ nm ≠ d ∧ nm ≠ w ∧ names.length ≤ 1000 ∧ (∀ n ∈ names, ascS n = true ∧ n.length ≤ 8) ∧
  ∀ u y H', Draw H' d w c (t + 4) → But d w H H' → Dx K (hidS [d, w] H') u y → Odd x y → Q u H'
theorem scLawBent : FnScope ["draw", "thing", "names", "path"] ["draw", "thing", "names"] (defScope sLawBent) := ⟨rfl, rfl, rfl, by decide +kernel, rfl, by decide +kernel, by decide +kernel⟩
theorem hLawBent (D : DS K mg) (T : TF mg) : Has P w K mg base CX0 "_law_bent" sLawBent ["draw", "thing", "names"] 66 (spBent K) := by
  have hLawPick : Has P w K mg base CX0 _ _ _ 3 _ := hLawPick D T
  have hLawPaths : Has P w K mg base CX0 _ _ _ 1 _ := hLawPaths D T
  have hLawOdd : Has P w K mg base CX0 _ _ _ 4 _ := hLawOdd D T
  have hLawPartAt : Has P w K mg base CX0 _ _ _ 1 _ := hLawPartH D T
  have hLawPutAt : Has P w K mg base CX0 _ _ _ 65 _ := hLawPutH D T 64
  refine Has.mk0 D.aLawBent scLawBent (fun _ _ _ _ _ _ us hl => match us, hl with | [_, _, _], _ => rfl) (fun vs H Q E h => ?_) (fun cdv A outer s H vs Q E hr h => ?_)
  · obtain ⟨d, w, c, t, v, x, nm, names, rfl, _⟩ := h
    rfl
  · obtain ⟨d, w', c, t, v, x, nm, names, rfl, dr, ht, hd, ha, hw, hdep, hnm, nd, nw, nl, nA, k⟩ := h
    refine ⟨_, (pss_cons (ps_set (i := 3) scLawBent.nd rfl (Or.inl rfl) (pe_fn hLawPick (hr.mono (by decide)) (by rfl) (pa_cons (pv 0) (pa_cons (pe_fn hLawPaths (hr.mono (by decide)) (by rfl) (pa_cons (pv 1) pa_nil)) pa_nil))))
      (pss_one (ps_ret (pe_fn hLawPutAt (hr.mono (by decide)) (by rfl) (pa_cons (pv 1) (pa_cons (pv 3) (pa_cons (pe_fn hLawOdd (hr.mono (by decide)) (by rfl) (pa_cons (pv 0) (pa_cons (pe_fn hLawPartAt (hr.mono (by decide)) (by rfl) (pa_cons (pv 1) (pa_cons (pv 3) pa_nil))) (pa_cons (pv 2) pa_nil)))) pa_nil))))))), ?_⟩
    refine ⟨_, rfl, _, rfl, v, x, rfl, hd.unhid, by omega, by omega, fun l xs ps H1 hl s1 h1 ne lps pA pE => ?_⟩
    have lv := dr.live
    have lout := lv.out hl
    simp only [List.mem_cons, List.not_mem_nil, or_false, not_or] at lout
    have lxs := DxAll.len pA
    rw [List.length_map] at lxs
    refine ⟨d, w', c, l, t, xs, rfl, dr.same s1, by omega, SqL.of h1, lout.1, lout.2, fun e => ne (by rw [e] at lxs; exact List.length_eq_zero_iff.mp lxs.symm), by omega, fun u H2 mu dr2 b2 => ?_⟩
    obtain ⟨yp, myp, hyp⟩ := DxAll.mem pA mu
    obtain ⟨p, mp, rfl⟩ := List.mem_map.mp myp
    obtain ⟨z, hz, hp1⟩ := pE p mp
    have mts : ∀ b ∈ [d, w'], ∀ o, H1 b = some o → Mt o := fun b hb o e => by
      obtain ⟨ws, cs, r, u', g1, g2, g3, g4⟩ := dr.same s1
      simp only [List.mem_cons, List.not_mem_nil, or_false] at hb
      rcases hb with rfl | rfl
      · rw [g1] at e
        cases e
        trivial
      · rw [g2] at e
        cases e
        trivial
    have T2 : Tst H1 H2 := b2.fr.tst mts
    obtain ⟨ap, pxs, rfl, tp⟩ := (T2.dx (nl_path p) hyp).tupD
    have b02 := (But.of s1).trans b2
    have hd2 := b02.fr.dx hd
    have hplen : p.length ≤ 60 := by
      have : ∀ {p : List Nat} {d x : PyData}, atD d p = some x → p.length ≤ d.depth := by
        intro p
        induction p with
        | nil => intros; exact Nat.zero_le _
        | cons i p ih =>
          intro d x h
          cases d with
          | tuple ds =>
            have h' : (match ds[i]? with | some x => atD x p | none => none) = some x := h
            cases e : ds[i]? with
            | none => rw [e] at h'; cases h'
            | some u =>
              rw [e] at h'
              have h1 := ih h'
              have h2 := Exq.depth_mem (List.mem_of_getElem? e)
              show p.length + 1 ≤ PyData.depthAll ds + 1
              omega
          | _ => cases h
      exact Nat.le_trans (this hz) hdep
    refine ⟨_, rfl, _, rfl, _, rfl, _, rfl, _, rfl, [d, w'], v, x, ap, pxs, p, z, rfl, hd2, tp, hz, fun pw hpw => ?_⟩
    have wz := at_wt hz
    refine ⟨_, rfl, d, w', c, t + 1, pw, z, nm, names, rfl, dr2, by omega, hpw, at_asc hz ha, by omega, b02 _ _ hnm nd nw, nd, nw, nl, nA, fun u3 y3 H3 dr3 b3 hu3 o3 => ?_⟩
    have mts2 : ∀ b ∈ [d, w'], ∀ o, H2 b = some o → Mt o := fun b hb o e => by
      obtain ⟨ws, cs, r, u', g1, g2, g3, g4⟩ := dr2
      simp only [List.mem_cons, List.not_mem_nil, or_false] at hb
      rcases hb with rfl | rfl
      · rw [g1] at e
        cases e
        trivial
      · rw [g2] at e
        cases e
        trivial
    have T3 : Tst H2 H3 := b3.fr.tst mts2
    refine ⟨[d, w'], v, x, ap, pxs, p, z, u3, y3, rfl, dr3.live, b3.fr.dx hd2, T3.tupD (nl_path p) tp, hz, by omega, by omega, by omega, hu3, fun u4 H4 s4 hu4 => ?_⟩
    exact k u4 _ H4 ((dr3.same s4).mono (by omega)) ((b02.trans b3).trans (But.of s4)) hu4 (put_odd hz ha o3)
end
end Any
set_option Elab.async false
set_option linter.all false
set_option maxRecDepth 100000
set_option maxHeartbeats 4000000
/-! Drawn names in a drawn order. -/
namespace Any
open PySem PySem.Spec PyProof.Rows L2 RT
open He (ga ma)
theorem Draw.upd {H : Hp} {d w c p : Addr} {t : Int} {o : HO} (D : Draw H d w c t) (n1 : p ≠ d) (n2 : p ≠ w) (n3 : p ≠ c) : Draw (upd H p o) d w c t := by
  obtain ⟨ws, cs, r, u, h1, h2, h3, q⟩ := D
  exact ⟨ws, cs, r, u, by rw [upd_ne (Ne.symm n1)]; exact h1, by rw [upd_ne (Ne.symm n2)]; exact h2, by rw [upd_ne (Ne.symm n3)]; exact h3, q⟩
theorem perm_erase {α : Type} : ∀ {l : List α} {i : Nat} {x : α}, l[i]? = some x → (x :: l.eraseIdx i).Perm l
  | y :: l, 0, x, h => by
    cases Option.some.inj h
    exact List.Perm.refl _
  | y :: l, i + 1, x, h => by
    have ih := perm_erase (l := l) (i := i) (x := x) (by simpa using h)
    show (x :: y :: l.eraseIdx i).Perm (y :: l)
    exact (List.Perm.swap y x _).trans (ih.cons y)
theorem Draw.fresh {H : Hp} {d w c p : Addr} {t : Int} (D : Draw H d w c t) (h : H p = none) : p ≠ d ∧ p ≠ w ∧ p ≠ c := by
  obtain ⟨ws, cs, r, u, h1, h2, h3, _⟩ := D
  exact ⟨(ne_of_none h1 h).symm, (ne_of_none h2 h).symm, (ne_of_none h3 h).symm⟩
theorem But.own {d w p : Addr} {H H1 : Hp} {o : HO} (b : But d w H H1) (h : H p = none) : But d w H (upd H1 p o) := fun q u e n1 n2 => by
  rw [upd_ne (ne_of_none e h)]
  exact b q u e n1 n2
theorem dp_strs {K : PySem.W.Frag} {H : Hp} : ∀ zs : List Str, DpAll K H (zs.map V.str) (zs.map PyData.str)
  | [] => .nil
  | z :: zs => .cons (.str z) (dp_strs zs)
theorem eqv_empty (ds : List PyData) : PyData.eqv (.list ds) (.list []) = ds.isEmpty := by
  cases ds <;> rfl
theorem erase_map {α β : Type} (f : α → β) : ∀ (l : List α) (n : Nat), (l.map f).eraseIdx n = (l.eraseIdx n).map f
  | [], _ => rfl
  | _ :: _, 0 => rfl
  | x :: l, n + 1 => by
    show f x :: (l.map f).eraseIdx n = f x :: (l.eraseIdx n).map f
    rw [erase_map f l n]
/-- the drawn names: a letter, and perhaps more -/
def sufs : List Str := ["", "", "q", "zz"]
def nmTxt (k : Nat) (s : Str) : Str := (⟨#[97 + k]⟩ : Str) ++ s
theorem nm_good : ∀ k < 6, ∀ s ∈ sufs, isNm (nmTxt k s) = true ∧ ascS (nmTxt k s) = true ∧ (nmTxt k s).length ≤ 3 := by decide +kernel
theorem nm_inj : ∀ k < 6, ∀ j < 6, ∀ s ∈ sufs, ∀ s' ∈ sufs, nmTxt k s = nmTxt j s' → k = j := by decide +kernel
/-- good names -/
structure NamesOk (zs : List Str) : Prop where
  nd : zs.Nodup
  each : ∀ z ∈ zs, isNm z = true ∧ ascS z = true ∧ z.length ≤ 3
def spNames (K : PySem.W.Frag) : Sp := fun vs H Q _ => ∃ (d w c : Addr) (t : Int), vs = [.ref d, .int 6] ∧ Draw H d w c t ∧ t < 800000000 ∧
  ∀ (f : Addr) (zs : List Str) (H' : Hp), NamesOk zs → zs.length = 6 → H f = none → H' f = some (.lst (zs.map V.str)) → Draw H' d w c (t + 2000) → But d w H H' → Q (.ref f) H'
theorem let_at : ∀ i < 6, atI letS.cps.toList ((0 : Int) + (i : Nat)) = some (97 + i) := by decide +kernel
def spShuf (K : PySem.W.Frag) : Sp := fun vs H Q _ => ∃ (d w c : Addr) (t : Int) (l : Addr) (ns : List Str), vs = [.ref d, .ref l] ∧ Draw H d w c t ∧ t < 900000000 ∧ H l = some (.lst (ns.map V.str)) ∧ l ≠ d ∧ l ≠ w ∧ ns.length ≤ 1000 ∧ (∀ n ∈ ns, ascS n = true) ∧
  ∀ (f : Addr) (zs : List Str) (H' : Hp), zs.Perm ns → H f = none → H' f = some (.lst (zs.map V.str)) → Draw H' d w c (t + 1000) → But d w H H' → Q (.ref f) H'
section
variable {P : Program} {w : World} {K : PySem.W.Frag} {mg : Str → Option Value} {base : Heap}
theorem scLawShuffled : FnScope ["draw", "some", "left", "found"] ["draw", "some"] (defScope sLawShuffled) := ⟨rfl, rfl, rfl, by decide +kernel, rfl, by decide +kernel, by decide +kernel⟩
theorem hLawShuffled (D : DS K mg) (T : TF mg) : Has P w K mg base CX0 "_law_shuffled" sLawShuffled ["draw", "some"] 3 (spShuf K) := by
  have hLawTake : Has P w K mg base CX0 _ _ _ 2 _ := hLawTake D T
  refine Has.mk0 D.aLawShuffled scLawShuffled (fun _ _ _ _ _ _ us hl => match us, hl with | [_, _], _ => rfl) (fun vs H Q E h => ?_) (fun cdv A outer s H vs Q E hr h => ?_)
  · obtain ⟨d, w, c, t, l, ns, rfl, _⟩ := h
    rfl
  · obtain ⟨d, w', c, t, l, ns, rfl, dr, ht, hl, ld, lw, ln, hA, k⟩ := h
    refine ⟨_, (pss_cons (ps_par (i := 2) (j := 3) rfl scLawShuffled.nd rfl rfl (by decide) rfl rfl (pa_cons (pe_callTy call_list_of (by rfl) T.list (by decide +kernel) (pa_cons (pv 1) pa_nil)) (pa_cons (pe_lst pa_nil) pa_nil)) (by rfl))
      (pss_cons (ps_while PassesOwn.never (pt_cmpR (op_neD hr.units) (pv 2) (pe_lst pa_nil) (nomark _))
        (pss_one (ps_expr (pe_bm PySem.F.plainAttrs_list PySem.F.slot_list_append PySem.F.type_list_append mt_append (pv 3) (pa_cons (pe_bm PySem.F.plainAttrs_list PySem.F.slot_list_pop PySem.F.type_list_pop mt_popAt (pv 2) (pa_cons (pe_fn hLawTake (hr.mono (by decide)) (by rfl) (pa_cons (pv 0) (pa_cons (pe_callB call_len_seq (by rfl) T.len PySem.boot_len (pa_cons (pv 2) pa_nil)) pa_nil))) pa_nil)) pa_nil)))))
      (pss_one (ps_ret (pv 3))))), ?_⟩
    refine ⟨_, rfl, l, _, rfl, .inl (SqL.of hl), fun L hL => ⟨by show 0 ≤ sizeLine; exact Nat.zero_le _, fun F hF => ⟨_, _, rfl, ?_⟩⟩⟩
    have s1 : Same H (upd H L (.lst (ns.map V.str))) := snew hL
    have L1 : (upd H L (.lst (ns.map V.str))) L = some (.lst (ns.map V.str)) := upd_same
    generalize upd H L (.lst (ns.map V.str)) = H1 at s1 L1 hF ⊢
    have s2 : Same H1 (upd H1 F (.lst [])) := snew hF
    have F2 : (upd H1 F (.lst [])) F = some (.lst []) := upd_same
    have FL : F ≠ L := (ne_of_none L1 hF).symm
    have hFn := s1.free hF
    generalize upd H1 F (.lst []) = H2 at s2 F2 ⊢
    have L2 := s2 _ _ L1
    have s02 := s1.trans s2
    have nL := dr.fresh hL
    have nF := dr.fresh hFn
    refine ⟨fun m σ Hc => ∃ (us zs : List Str) (t' : Int), σ = [some (.ref d), some (.ref l), some (.ref L), some (.ref F)] ∧ Hc L = some (.lst (us.map V.str)) ∧ Hc F = some (.lst (zs.map V.str)) ∧ (zs ++ us).Perm ns ∧ us.length = m ∧ Draw Hc d w' c t' ∧ t' + us.length ≤ t + 1000 ∧ But d w' H Hc,
      ⟨_, ns, [], t, rfl, L2, F2, List.Perm.refl _, rfl, dr.same s02, by omega, But.of s02⟩, ?_⟩
    rintro m σ Hc ⟨us, zs, t', rfl, cL, cF, pe, rfl, drc, tc, bc⟩
    have lz : zs.length + us.length = ns.length := by
      have := pe.length_eq
      rw [List.length_append] at this
      exact this
    have uA : ∀ u ∈ us, ascS u = true := fun u hu => hA u (pe.subset (List.mem_append_right _ hu))
    refine ⟨_, rfl, by show 0 ≤ sizeLine; exact Nat.zero_le _, fun e he => ⟨.list (us.map PyData.str), .list [], .lst (SqL.of (snew he _ _ cL)) (dp_strs us), .lst (SqL.of upd_same) .nil, shaped_strs fun u hu => ascS_asc (uA u hu), shaped_strs (xs := []) (fun _ h => nomatch h), _, rfl, ?_⟩⟩
    rw [eqv_empty, List.isEmpty_map]
    have se : Same Hc (upd Hc e (.lst [])) := snew he
    generalize upd Hc e (.lst []) = He at se ⊢
    have eL := se _ _ cL
    have eF := se _ _ cF
    have dre := drc.same se
    have be := bc.trans (But.of se)
    cases us with
    | nil =>
      refine iteF ⟨_, rfl, ?_⟩
      rw [List.append_nil] at pe
      exact k F zs He pe hFn eF (dre.mono (by simp only [List.length_nil] at tc; omega)) be
    | cons u us =>
      refine iteT ?_
      refine ⟨fun σ' H' => ∃ m', m' < _ ∧ _, fun _ _ h => h, ?_⟩
      generalize hus : u :: us = vs at *
      have lv1 : 1 ≤ vs.length := by rw [← hus, List.length_cons]; omega
      have ll : ((vs.map V.str).length : Int) = (vs.length : Int) := by rw [List.length_map]
      refine ⟨_, rfl, .inl ⟨rfl, _, SqL.of eF⟩, _, rfl, .inl ⟨rfl, _, SqL.of eL⟩, _, rfl, _, rfl, L, _, rfl, .inl (SqL.of eL), d, w', c, t', ((vs.map V.str).length : Nat), rfl, dre, by omega, by rw [ll]; omega, by rw [ll]; omega, fun i H3 i0 il dr3 b3 => ?_⟩
      obtain ⟨n, rfl⟩ := Int.eq_ofNat_of_zero_le i0
      rw [ll] at il
      have ln' : n < vs.length := by omega
      have L3 := b3 _ _ eL nL.1 nL.2.1
      have F3 := b3 _ _ eF nF.1 nF.2.1
      have hy : (vs.map V.str)[n]? = some (.str vs[n]) := by rw [List.getElem?_map, List.getElem?_eq_getElem ln']; rfl
      refine ⟨L, vs.map V.str, (n : Int), n, .str vs[n], rfl, rfl, L3, by omega, by omega, ?_, hy, ?_⟩
      · unfold seqIndex?
        rw [List.length_map]
        have : ¬ ((n : Int) < 0) := by omega
        simp only [this, if_false]
        rw [if_pos (by simp; omega)]
        rfl
      have er : (vs.map V.str).eraseIdx n = (vs.eraseIdx n).map V.str := erase_map _ _ _
      rw [er]
      have F4 : (upd H3 L (.lst ((vs.eraseIdx n).map V.str))) F = some (.lst (zs.map V.str)) := by rw [upd_ne FL]; exact F3
      have le : (vs.eraseIdx n).length + 1 = vs.length := by rw [List.length_eraseIdx_of_lt ln']; omega
      refine ⟨F, _, _, rfl, rfl, F4, ?_, (vs.eraseIdx n).length, by omega, vs.eraseIdx n, zs ++ [vs[n]], t' + 1, rfl, by rw [upd_ne FL.symm]; exact upd_same, by rw [upd_same, List.map_append]; rfl, ?_, rfl, (dr3.upd nL.1 nL.2.1 nL.2.2).upd nF.1 nF.2.1 nF.2.2, by omega, ((be.trans b3).own hL).own hFn⟩
      · rw [List.length_map, sizeLine_eq]
        omega
      · rw [List.append_assoc]
        exact ((perm_erase (List.getElem?_eq_getElem ln')).append_left zs).trans pe
theorem scLawNames : FnScope ["draw", "many", "letters", "k"] ["draw", "many"] (defScope sLawNames) := ⟨rfl, rfl, rfl, by decide +kernel, rfl, by decide +kernel, by decide +kernel⟩
theorem hLawNames (D : DS K mg) (T : TF mg) : Has P w K mg base CX0 "_law_names" sLawNames ["draw", "many"] 4 (spNames K) := by
  have hLawPick : Has P w K mg base CX0 _ _ _ 3 _ := hLawPick D T
  have hLawShuffled : Has P w K mg base CX0 _ _ _ 3 _ := hLawShuffled D T
  refine Has.mk0 D.aLawNames scLawNames (fun _ _ _ _ _ _ us hl => match us, hl with | [_, _], _ => rfl) (fun vs H Q E h => ?_) (fun cdv A outer s H vs Q E hr h => ?_)
  · obtain ⟨d, w, c, t, rfl, _⟩ := h
    rfl
  · obtain ⟨d, w', c, t, rfl, dr, ht, k⟩ := h
    refine ⟨_, (pss_cons (ps_set (i := 2) scLawNames.nd rfl (Or.inr rfl) pe_str)
      (pss_one (ps_ret (pe_fn hLawShuffled (hr.mono (by decide)) (by rfl) (pa_cons (pv 0) (pa_cons (pe_lc (own := [("k", 3)]) (g := (gName 3)) rfl scLawNames.nd (pi_range1 (by rfl) T.range (pa_cons (pv 1) pa_nil)) (blkOk_by (own := [("k", 3)]) (N := ["draw", "many", "letters", "k"]) (sc := defScope sLawNames) (by decide +kernel)) (fun _ _ _ _ _ => (pg_name (i := 3) scLawNames.nd rfl (Or.inl rfl))) (fun _ _ _ _ _ => pts_nil) (fun _ _ _ _ _ => (pe_op op_add_str (pe_ix ix_str (pv 2) (pv 3) (fun _ _ => rfl)) (pe_fn hLawPick (hr.mono (by decide)) (by rfl) (pa_cons (pv 0) (pa_cons (pe_lst (pa_cons pe_str (pa_cons pe_str (pa_cons pe_str (pa_cons pe_str pa_nil))))) pa_nil)))))) pa_nil)))))), ?_⟩
    refine ⟨_, rfl, _, rfl, 6, rfl, by decide, by decide, fun Dn hDn => ?_⟩
    have nD := dr.fresh hDn
    refine lc_it (walk_range (lo := 0) (n := 6)) (fun i Hd => ∃ zs : List Str, Hd Dn = some (.lst (zs.map V.str)) ∧ Draw Hd d w' c (t + i) ∧ But d w' H Hd ∧ zs.length = i ∧ zs.Nodup ∧ ∀ z ∈ zs, ∃ j < i, ∃ s ∈ sufs, z = nmTxt j s) ⟨[], upd_same, (dr.same (snew hDn)).mono (by omega), But.of (snew hDn), rfl, List.nodup_nil, fun _ h => nomatch h⟩ (fun _ _ _ _ => trivial) ?_ ?_
    · rintro i y Hd Hd' hi ⟨zs, z1, dr1, b1, zl, nd, ze⟩ ⟨rfl, rfl⟩
      refine ⟨rfl, yes_if ⟨_, rfl, _, rfl, letS, (0 : Int) + (i : Nat), 97 + i, rfl, rfl, by rw [sizeLine_eq]; decide +kernel, let_at i hi, ?_⟩⟩
      refine ⟨_, rfl, by show 4 ≤ sizeLine; decide, fun l hl => ?_⟩
      have sl : Same Hd' (upd Hd' l (.lst [V.str "", V.str "", V.str "q", V.str "zz"])) := snew hl
      have nl := dr1.fresh hl
      refine ⟨d, w', c, l, t + i, _, rfl, dr1.same sl, by omega, SqL.of upd_same, nl.1, nl.2.1, by simp, by show 4 < 1073741824; decide, fun u H3 mu dr3 b3 => ?_⟩
      obtain ⟨s, hs, rfl⟩ : ∃ s ∈ sufs, u = V.str s := by
        simp only [List.mem_cons, List.not_mem_nil, or_false] at mu
        rcases mu with rfl | rfl | rfl | rfl
        · exact ⟨_, by unfold sufs; simp, rfl⟩
        · exact ⟨_, by unfold sufs; simp, rfl⟩
        · exact ⟨"q", by unfold sufs; simp, rfl⟩
        · exact ⟨"zz", by unfold sufs; simp, rfl⟩
      have g := nm_good i hi s hs
      have z3 := b3 _ _ (sl _ _ z1) nD.1 nD.2.1
      refine ⟨_, _, rfl, rfl, ?_, zs.map V.str, z3, ?_, zs ++ [nmTxt i s], by rw [upd_same, List.map_append]; rfl, (dr3.upd nD.1 nD.2.1 nD.2.2).mono (by omega), (b1.trans ((But.of sl).trans b3)).own hDn, by rw [List.length_append, zl]; rfl, ?_, ?_⟩
      · have h1 : (nmTxt i s).length = 1 + s.length := len_app _ _
        have h2 := g.2.2
        show 1 + s.length ≤ sizeLine
        rw [sizeLine_eq]
        omega
      · rw [List.length_map, zl, sizeLine_eq]
        omega
      · refine List.nodup_append.mpr ⟨nd, by simp, fun a ha b hb e => ?_⟩
        rw [List.mem_singleton.mp hb] at e
        obtain ⟨j, hj, s', hs', rfl⟩ := ze a ha
        have := nm_inj j (by omega) i hi s' hs' s hs e
        omega
      · intro z hz
        rcases List.mem_append.mp hz with hz | hz
        · obtain ⟨j, hj, q⟩ := ze z hz
          exact ⟨j, by omega, q⟩
        · rw [List.mem_singleton.mp hz]
          exact ⟨i, by omega, s, hs, rfl⟩
    · rintro Hd ⟨zs, z1, dr1, b1, zl, nd, ze⟩
      refine ⟨d, w', c, t + 6, Dn, zs, rfl, dr1, by omega, z1, nD.1, nD.2.1, by omega, fun z hz => ?_, fun f ys H' pe hf hfy dr2 b2 => ?_⟩
      · obtain ⟨j, hj, s, hs, rfl⟩ := ze z hz
        exact (nm_good j hj s hs).2.1
      · have hfH : H f = none := by
          cases q : H f with
          | none => rfl
          | some o =>
            by_cases z1 : f = d
            · rw [z1] at hf
              obtain ⟨ws, cs, r, u, h1, _⟩ := dr1
              rw [h1] at hf
              cases hf
            · by_cases z2 : f = w'
              · rw [z2] at hf
                obtain ⟨ws, cs, r, u, _, h1, _⟩ := dr1
                rw [h1] at hf
                cases hf
              · rw [b1 _ _ q z1 z2] at hf
                cases hf
        refine k f ys H' ⟨pe.nodup_iff.mpr nd, fun z hz => ?_⟩ (pe.length_eq.trans zl) hfH hfy (dr2.mono (by omega)) (b1.trans b2)
        obtain ⟨j, hj, s, hs, rfl⟩ := ze z (pe.subset hz)
        exact nm_good j hj s hs
end
end Any
set_option Elab.async false
set_option linter.all false
set_option maxRecDepth 100000
set_option maxHeartbeats 4000000
/-! Drawn expressions: the mathematics; the shop. -/
namespace Any
open PySem PySem.Spec PyProof.Rows L2 RT
open He (ga ma)
/-- an expression of some variables and parts, of bounded weight and depth -/
structure GB (vs ps : List Str) (b k : Nat) (e : PyData) : Prop where
  ex : exD e = true
  fit : fitB vs ps e = true
  asc : asc e = true
  wt : wt e ≤ b
  dep : e.depth ≤ k
def VOk (vs : List Str) : Prop := ∀ z ∈ vs, isNm z = true ∧ ascS z = true ∧ z.length ≤ 3
theorem GB.mono {vs ps : List Str} {b k b' k' : Nat} {e : PyData} (g : GB vs ps b k e) (h1 : b ≤ b') (h2 : k ≤ k') : GB vs ps b' k' e := ⟨g.ex, g.fit, g.asc, Nat.le_trans g.wt h1, Nat.le_trans g.dep h2⟩
theorem headB_name {vs ps : List Str} {h x : Str} {r : List PyData} (m : h ∈ ([("name" : Str), "set", "each"] : List Str)) : headB vs ps h (.str x :: r) = decide (x ∈ vs) := by
  have e1 : nameIn ["name", "set", "each"] (.tuple (.str h :: .str x :: r)) = some x := if_pos m
  have e2 : nameIn ["call"] (.tuple (.str h :: .str x :: r)) = none := if_neg fun q => by
    rw [List.mem_singleton.mp q] at m
    revert m
    decide +kernel
  unfold headB
  rw [e1, e2]
  simp
theorem headB_call {vs ps : List Str} {x : Str} {r : List PyData} : headB vs ps "call" (.str x :: r) = decide (x ∈ ps) := by
  have e1 : nameIn ["name", "set", "each"] (.tuple (.str "call" :: .str x :: r)) = none := by
    show (if ("call" : Str) ∈ ([("name" : Str), "set", "each"] : List Str) then some x else none) = none
    exact if_neg (by decide +kernel)
  have e2 : nameIn ["call"] (.tuple (.str "call" :: .str x :: r)) = some x := by
    show (if ("call" : Str) ∈ ([("call" : Str)] : List Str) then some x else none) = some x
    exact if_pos (by decide +kernel)
  unfold headB
  rw [e1, e2]
  simp
theorem headB_none {vs ps : List Str} {h : Str} {r : List PyData} (n1 : h ∉ ([("name" : Str), "set", "each"] : List Str)) (n2 : h ≠ "call") : headB vs ps h r = true := by
  have n : ∀ ws : List Str, h ∉ ws → nameIn ws (.tuple (.str h :: r)) = none := fun ws q => by
    unfold nameIn
    split
    · rename_i e
      cases e
      exact if_neg q
    · rfl
  unfold headB
  rw [n _ n1, n _ (fun q => n2 (List.mem_singleton.mp q))]
  rfl
theorem asc_str {h : Str} (a : ascS h = true) : asc (.str h) = true := a
section
variable {vs ps : List Str} {b b1 b2 b3 k : Nat} {x : Str} {e e1 e2 e3 : PyData}
theorem gb_number {i : Int} (h0 : 0 ≤ i) (h7 : i ≤ 7) : GB vs ps 16 1 (.tuple [.str "number", .int i]) := by
  refine ⟨?_, ?_, ?_, ?_, Nat.le_refl _⟩
  · rw [ex_number]
    show (decide (([PyData.int i] : List PyData).length = 1) && (decide (0 ≤ i) && decide (i ≤ 7))) = true
    rw [decide_eq_true h0, decide_eq_true h7]
    rfl
  · rw [fitB_node, headB_none (by decide +kernel) (by decide +kernel), show kidsAt "number" = [] by decide +kernel]
    rfl
  · exact asc_tup' fun z hz => by
      simp only [List.mem_cons, List.not_mem_nil, or_false] at hz
      rcases hz with rfl | rfl
      · show ascS "number" = true
        decide +kernel
      · rfl
  · show 1 + ((1 + ("number" : Str).length) + ((1 + i.natAbs) + 0)) ≤ 16
    rw [show ("number" : Str).length = 6 by decide +kernel]
    omega
theorem gb_ask : GB vs ps 16 1 (.tuple [.str "ask"]) := by
  refine ⟨?_, ?_, ?_, ?_, Nat.le_refl _⟩
  · rw [ex_plain (by decide +kernel)]
    decide +kernel
  · rw [fitB_node, headB_none (by decide +kernel) (by decide +kernel), show kidsAt "ask" = [] by decide +kernel]
    rfl
  · decide +kernel
  · decide +kernel
theorem gb_name (hv : VOk vs) (m : x ∈ vs) : GB vs ps 16 1 (.tuple [.str "name", .str x]) := by
  obtain ⟨h1, h2, h3⟩ := hv x m
  refine ⟨?_, ?_, ?_, ?_, Nat.le_refl _⟩
  · rw [ex_name]
    show ((decide (([PyData.str x] : List PyData).length = 1) || decide (([PyData.str x] : List PyData).length = 2)) && (isNm x && (decide (([PyData.str x] : List PyData).length = 1) || _))) = true
    rw [h1]
    rfl
  · rw [fitB_node, headB_name (by decide +kernel), decide_eq_true m, show kidsAt "name" = [] by decide +kernel]
    rfl
  · exact asc_tup' fun z hz => by
      simp only [List.mem_cons, List.not_mem_nil, or_false] at hz
      rcases hz with rfl | rfl
      · show ascS "name" = true
        decide +kernel
      · exact h2
  · show 1 + ((1 + ("name" : Str).length) + ((1 + x.length) + 0)) ≤ 16
    rw [show ("name" : Str).length = 4 by decide +kernel]
    omega
theorem gb_pin {i : Int} (hv : VOk vs) (m : x ∈ vs) (h0 : 0 ≤ i) (h3' : i ≤ 3) : GB vs ps 16 1 (.tuple [.str "name", .str x, .int i]) := by
  obtain ⟨h1, h2, h3⟩ := hv x m
  refine ⟨?_, ?_, ?_, ?_, Nat.le_refl _⟩
  · rw [ex_name]
    show ((decide (([PyData.str x, .int i] : List PyData).length = 1) || decide (([PyData.str x, .int i] : List PyData).length = 2)) && (isNm x && (decide (([PyData.str x, .int i] : List PyData).length = 1) || (decide (0 ≤ i) && decide (i ≤ 3))))) = true
    rw [h1, decide_eq_true h0, decide_eq_true h3']
    rfl
  · rw [fitB_node, headB_name (by decide +kernel), decide_eq_true m, show kidsAt "name" = [] by decide +kernel]
    rfl
  · exact asc_tup' fun z hz => by
      simp only [List.mem_cons, List.not_mem_nil, or_false] at hz
      rcases hz with rfl | rfl | rfl
      · show ascS "name" = true
        decide +kernel
      · exact h2
      · rfl
  · show 1 + ((1 + ("name" : Str).length) + ((1 + x.length) + ((1 + i.natAbs) + 0))) ≤ 16
    rw [show ("name" : Str).length = 4 by decide +kernel]
    omega
theorem gb_call (hp : VOk ps) (m : x ∈ ps) : GB vs ps 16 1 (.tuple [.str "call", .str x]) := by
  obtain ⟨h1, h2, h3⟩ := hp x m
  refine ⟨?_, ?_, ?_, ?_, Nat.le_refl _⟩
  · rw [ex_call]
    show (decide (([PyData.str x] : List PyData).length = 1) && isNm x) = true
    rw [h1]
    rfl
  · rw [fitB_node, headB_call, decide_eq_true m, show kidsAt "call" = [] by decide +kernel]
    rfl
  · exact asc_tup' fun z hz => by
      simp only [List.mem_cons, List.not_mem_nil, or_false] at hz
      rcases hz with rfl | rfl
      · show ascS "call" = true
        decide +kernel
      · exact h2
  · show 1 + ((1 + ("call" : Str).length) + ((1 + x.length) + 0)) ≤ 16
    rw [show ("call" : Str).length = 4 by decide +kernel]
    omega
theorem gb_set (hv : VOk vs) (m : x ∈ vs) (g : GB vs ps b k e) : GB vs ps (b + 9) (k + 1) (.tuple [.str "set", .str x, e]) := by
  obtain ⟨h1, h2, h3⟩ := hv x m
  refine ⟨?_, ?_, ?_, ?_, ?_⟩
  · rw [ex_set]
    show (decide (([PyData.str x, e] : List PyData).length = 2) && (isNm x && exD e)) = true
    rw [h1, g.ex]
    rfl
  · rw [fitB_node, headB_name (by decide +kernel), decide_eq_true m, show kidsAt "set" = [2] by decide +kernel]
    show (true && (fitB vs ps e && true)) = true
    rw [g.fit]
    rfl
  · exact asc_tup' fun z hz => by
      simp only [List.mem_cons, List.not_mem_nil, or_false] at hz
      rcases hz with rfl | rfl | rfl
      · show ascS "set" = true
        decide +kernel
      · exact h2
      · exact g.asc
  · have := g.wt
    show 1 + ((1 + ("set" : Str).length) + ((1 + x.length) + (Any.wt e + 0))) ≤ b + 9
    rw [show ("set" : Str).length = 3 by decide +kernel]
    omega
  · have := g.dep
    show max 0 (max 0 (max e.depth 0)) + 1 ≤ k + 1
    omega
/-- a node whose parts are expressions all -/
theorem gb_plain {h : Str} {r : List PyData} {n : Nat} (m : h ∈ ([("show" : Str), "ask", "if", "then", "while"] : List Str)) (l : (r.length : Int) + 1 = lenAt h) (ka : kidsAt h = (List.range r.length).map (· + 1)) (hn : h.length ≤ 5) (hb : wtA r ≤ n) (g : ∀ e ∈ r, exD e = true ∧ fitB vs ps e = true ∧ asc e = true ∧ e.depth ≤ k) :
    GB vs ps (n + 7) (k + 1) (.tuple (.str h :: r)) := by
  have ah : ascS h = true := by
    have : ∀ h ∈ ([("show" : Str), "ask", "if", "then", "while"] : List Str), ascS h = true := by decide +kernel
    exact this h m
  have n1 : h ∉ ([("name" : Str), "set", "each"] : List Str) := by
    have : ∀ h ∈ ([("show" : Str), "ask", "if", "then", "while"] : List Str), h ∉ ([("name" : Str), "set", "each"] : List Str) := by decide +kernel
    exact this h m
  have n2 : h ≠ "call" := by
    have : ∀ h ∈ ([("show" : Str), "ask", "if", "then", "while"] : List Str), h ≠ "call" := by decide +kernel
    exact this h m
  refine ⟨?_, ?_, ?_, ?_, ?_⟩
  · rw [ex_plain m, decide_eq_true l, Bool.true_and]
    exact List.all_eq_true.mpr fun e he => (g e he).1
  · rw [fitB_node, headB_none n1 n2, ka, Bool.true_and]
    refine List.all_eq_true.mpr fun i hi => ?_
    obtain ⟨j, hj, rfl⟩ := List.mem_map.mp hi
    have lj := List.mem_range.mp hj
    rw [List.getD_cons_succ, List.getD_eq_getElem?_getD, List.getElem?_eq_getElem lj]
    exact (g _ (List.getElem_mem _)).2.1
  · exact asc_tup' fun z hz => by
      rcases List.mem_cons.mp hz with rfl | hz
      · exact ah
      · exact (g z hz).2.2.1
  · show 1 + ((1 + h.length) + wtA r) ≤ n + 7
    omega
  · show max 0 (PyData.depthAll r) + 1 ≤ k + 1
    have := depthAll_of (xs := r) (n := k) fun z hz => (g z hz).2.2.2
    omega
theorem GB.four {vs ps : List Str} {b k : Nat} {e : PyData} (g : GB vs ps b k e) : exD e = true ∧ fitB vs ps e = true ∧ Any.asc e = true ∧ e.depth ≤ k := ⟨g.ex, g.fit, g.asc, g.dep⟩
theorem gb_show (g : GB vs ps b k e) : GB vs ps (b + 7) (k + 1) (.tuple [.str "show", e]) :=
  gb_plain (by decide +kernel) (show (1 : Int) + 1 = lenAt "show" by decide +kernel) (show kidsAt "show" = [1] by decide +kernel) (by decide +kernel) (by simp only [wtA]; exact g.wt) fun z hz => by rw [List.mem_singleton.mp hz]; exact g.four
theorem gb_two {h : Str} (m : h ∈ ([("then" : Str), "while"] : List Str)) (g1 : GB vs ps b1 k e1) (g2 : GB vs ps b2 k e2) : GB vs ps (b1 + b2 + 7) (k + 1) (.tuple [.str h, e1, e2]) := by
  have m' : ∀ h ∈ ([("then" : Str), "while"] : List Str), h ∈ ([("show" : Str), "ask", "if", "then", "while"] : List Str) ∧ (2 : Int) + 1 = lenAt h ∧ kidsAt h = [1, 2] ∧ h.length ≤ 5 := by decide +kernel
  obtain ⟨q1, q2, q3, q4⟩ := m' h m
  refine gb_plain q1 q2 q3 q4 (by simp only [wtA]; have := g1.wt; have := g2.wt; omega) fun z hz => ?_
  simp only [List.mem_cons, List.not_mem_nil, or_false] at hz
  rcases hz with rfl | rfl
  · exact g1.four
  · exact g2.four
theorem gb_if (g1 : GB vs ps b k e1) (g2 : GB vs ps b k e2) (g3 : GB vs ps b k e3) : GB vs ps (3 * b + 7) (k + 1) (.tuple [.str "if", e1, e2, e3]) := by
  refine gb_plain (by decide +kernel) (show (3 : Int) + 1 = lenAt "if" by decide +kernel) (show kidsAt "if" = [1, 2, 3] by decide +kernel) (by decide +kernel) (by simp only [wtA]; have := g1.wt; have := g2.wt; have := g3.wt; omega) fun z hz => ?_
  simp only [List.mem_cons, List.not_mem_nil, or_false] at hz
  rcases hz with rfl | rfl | rfl
  · exact g1.four
  · exact g2.four
  · exact g3.four
theorem ops_asc : ∀ h ∈ Exq.opsN, ascS h = true ∧ h.length ≤ 5 ∧ h ∉ ([("name" : Str), "set", "each"] : List Str) ∧ h ≠ "call" := by decide +kernel
/-- an operation, pinned or not -/
theorem gb_op {h : Str} {more : List PyData} (m : h ∈ Exq.opsN) (hm : more = [] ∨ more = [.str "left"] ∨ more = [.str "right"]) (g1 : GB vs ps b1 k e1) (g2 : GB vs ps b2 k e2) : GB vs ps (b1 + b2 + 13) (k + 1) (.tuple ([.str h, e1, e2] ++ more)) := by
  obtain ⟨a1, a2, a3, a4⟩ := ops_asc h m
  have d1 := g1.dep
  have d2 := g2.dep
  have w1 := g1.wt
  have w2 := g2.wt
  refine ⟨?_, ?_, ?_, ?_, ?_⟩
  · show exD (.tuple (.str h :: ([e1, e2] ++ more))) = true
    rw [ex_op m]
    rcases hm with rfl | rfl | rfl
    · show (true && (exD e1 && exD e2)) = true
      rw [g1.ex, g2.ex]
      rfl
    · show ((false || (true && Exq.oneOf ["left", "right"] (.str "left"))) && (exD e1 && exD e2)) = true
      rw [g1.ex, g2.ex, show Exq.oneOf ["left", "right"] (.str "left") = true by decide +kernel]
      rfl
    · show ((false || (true && Exq.oneOf ["left", "right"] (.str "right"))) && (exD e1 && exD e2)) = true
      rw [g1.ex, g2.ex, show Exq.oneOf ["left", "right"] (.str "right") = true by decide +kernel]
      rfl
  · show fitB vs ps (.tuple (.str h :: ([e1, e2] ++ more))) = true
    rw [fitB_node, headB_none a3 a4, at_op m]
    show (true && (fitB vs ps e1 && (fitB vs ps e2 && true))) = true
    rw [g1.fit, g2.fit]
    rfl
  · refine asc_tup' fun z hz => ?_
    rcases List.mem_append.mp hz with hz | hz
    · simp only [List.mem_cons, List.not_mem_nil, or_false] at hz
      rcases hz with rfl | rfl | rfl
      · exact a1
      · exact g1.asc
      · exact g2.asc
    · rcases hm with rfl | rfl | rfl
      · cases hz
      · rw [List.mem_singleton.mp hz]
        decide +kernel
      · rw [List.mem_singleton.mp hz]
        decide +kernel
  · show 1 + wtA ([.str h, e1, e2] ++ more) ≤ b1 + b2 + 13
    have wm : wtA more ≤ 6 := by rcases hm with rfl | rfl | rfl <;> decide +kernel
    rw [wtA_app]
    simp only [wtA, Any.wt]
    omega
  · show PyData.depthAll ([.str h, e1, e2] ++ more) + 1 ≤ k + 1
    rw [depthAll_app]
    have : PyData.depthAll more = 0 := by rcases hm with rfl | rfl | rfl <;> rfl
    rw [this]
    show max (max 0 (max e1.depth (max e2.depth 0))) 0 + 1 ≤ k + 1
    omega
theorem gb_each {i j : Int} {more : List PyData} (hv : VOk vs) (m : x ∈ vs) (h0 : 0 ≤ i) (hij : i ≤ j) (h7 : j ≤ 7) (hm : more = [] ∨ more = [.str "up"] ∨ more = [.str "down"]) (g : GB vs ps b k e) : GB vs ps (b + 33) (k + 1) (.tuple ([.str "each", .str x, .int i, .int j, e] ++ more)) := by
  obtain ⟨h1, h2, h3⟩ := hv x m
  have d1 := g.dep
  have w1 := g.wt
  have lh : lowHigh (.int i) (.int j) = true := by
    show (decide (0 ≤ i) && (decide (i ≤ j) && decide (j ≤ 7))) = true
    rw [decide_eq_true h0, decide_eq_true hij, decide_eq_true h7]
    rfl
  refine ⟨?_, ?_, ?_, ?_, ?_⟩
  · show exD (.tuple (.str "each" :: ([.str x, .int i, .int j, e] ++ more))) = true
    rw [ex_each]
    rcases hm with rfl | rfl | rfl
    · show (true && (isNm x && (lowHigh (.int i) (.int j) && (exD e && true)))) = true
      rw [h1, lh, g.ex]
      rfl
    · show (true && (isNm x && (lowHigh (.int i) (.int j) && (exD e && (false || Exq.oneOf ["up", "down"] (.str "up")))))) = true
      rw [h1, lh, g.ex, show Exq.oneOf ["up", "down"] (.str "up") = true by decide +kernel]
      rfl
    · show (true && (isNm x && (lowHigh (.int i) (.int j) && (exD e && (false || Exq.oneOf ["up", "down"] (.str "down")))))) = true
      rw [h1, lh, g.ex, show Exq.oneOf ["up", "down"] (.str "down") = true by decide +kernel]
      rfl
  · show fitB vs ps (.tuple (.str "each" :: (.str x :: ([.int i, .int j, e] ++ more)))) = true
    rw [fitB_node, headB_name (by decide +kernel), decide_eq_true m, show kidsAt "each" = [4] by decide +kernel]
    show (true && (fitB vs ps e && true)) = true
    rw [g.fit]
    rfl
  · refine asc_tup' fun z hz => ?_
    rcases List.mem_append.mp hz with hz | hz
    · simp only [List.mem_cons, List.not_mem_nil, or_false] at hz
      rcases hz with rfl | rfl | rfl | rfl | rfl
      · show ascS "each" = true
        decide +kernel
      · exact h2
      · rfl
      · rfl
      · exact g.asc
    · rcases hm with rfl | rfl | rfl
      · cases hz
      · rw [List.mem_singleton.mp hz]
        decide +kernel
      · rw [List.mem_singleton.mp hz]
        decide +kernel
  · show 1 + wtA ([.str "each", .str x, .int i, .int j, e] ++ more) ≤ b + 33
    have wm : wtA more ≤ 6 := by rcases hm with rfl | rfl | rfl <;> decide +kernel
    rw [wtA_app]
    simp only [wtA, Any.wt]
    rw [show ("each" : Str).length = 4 by decide +kernel]
    omega
  · show PyData.depthAll ([.str "each", .str x, .int i, .int j, e] ++ more) + 1 ≤ k + 1
    rw [depthAll_app]
    have : PyData.depthAll more = 0 := by rcases hm with rfl | rfl | rfl <;> rfl
    rw [this]
    show max (max 0 (max 0 (max 0 (max 0 (max e.depth 0))))) 0 + 1 ≤ k + 1
    omega
end
/-! ### the shop -/
def skv (va pa : Addr) (left loops : Int) (asks pins : Bool) : List (Key × V) := [(.inr "names", .ref va), (.inr "parts", .ref pa), (.inr "left", .int left), (.inr "loops", .int loops), (.inr "asks", .bl asks), (.inr "pins", .bl pins)]
structure Shop (H : Hp) (d w c sh va pa : Addr) (t : Int) (vs ps : List Str) (left loops : Int) (asks pins : Bool) : Prop where
  dr : Draw H d w c t
  at_ : H sh = some (.dK (skv va pa left loops asks pins))
  va_ : H va = some (.lst (vs.map V.str))
  pa_ : H pa = some (.lst (ps.map V.str))
  n1 : sh ≠ d
  n2 : va ≠ w
  n3 : pa ≠ w
section
variable {H H' : Hp} {d w c sh va pa : Addr} {t t' : Int} {vs ps : List Str} {left loops : Int} {asks pins : Bool}
theorem Shop.ne (S : Shop H d w c sh va pa t vs ps left loops asks pins) : sh ≠ w ∧ sh ≠ c ∧ va ≠ d ∧ va ≠ sh ∧ pa ≠ d ∧ pa ≠ sh := by
  obtain ⟨ws, cs, r, u, h1, h2, h3, _⟩ := S.dr
  refine ⟨ne_of S.at_ h2 (by intro q; cases q), ne_of S.at_ h3 (by intro q; cases q), ne_of S.va_ h1 (by intro q; cases q), ne_of S.va_ S.at_ (by intro q; cases q), ne_of S.pa_ h1 (by intro q; cases q), ne_of S.pa_ S.at_ (by intro q; cases q)⟩
theorem Shop.same (S : Shop H d w c sh va pa t vs ps left loops asks pins) (s : Same H H') : Shop H' d w c sh va pa t vs ps left loops asks pins := ⟨S.dr.same s, s _ _ S.at_, s _ _ S.va_, s _ _ S.pa_, S.n1, S.n2, S.n3⟩
theorem Shop.but (S : Shop H d w c sh va pa t vs ps left loops asks pins) (b : But d w H H') (dr : Draw H' d w c t') : Shop H' d w c sh va pa t' vs ps left loops asks pins :=
  ⟨dr, b _ _ S.at_ S.n1 S.ne.1, b _ _ S.va_ S.ne.2.2.1 S.n2, b _ _ S.pa_ S.ne.2.2.2.2.1 S.n3, S.n1, S.n2, S.n3⟩
theorem Shop.mono (S : Shop H d w c sh va pa t vs ps left loops asks pins) (h : t ≤ t') : Shop H d w c sh va pa t' vs ps left loops asks pins := ⟨S.dr.mono h, S.at_, S.va_, S.pa_, S.n1, S.n2, S.n3⟩
theorem Shop.set (S : Shop H d w c sh va pa t vs ps left loops asks pins) (l2 o2 : Int) : Shop (upd H sh (.dK (skv va pa l2 o2 asks pins))) d w c sh va pa t vs ps l2 o2 asks pins :=
  ⟨S.dr.upd S.n1 S.ne.1 S.ne.2.1, upd_same, by rw [upd_ne S.ne.2.2.2.1]; exact S.va_, by rw [upd_ne S.ne.2.2.2.2.2]; exact S.pa_, S.n1, S.n2, S.n3⟩
theorem Shop.mt (S : Shop H d w c sh va pa t vs ps left loops asks pins) : ∀ b ∈ [d, w, sh], ∀ o, H b = some o → Mt o := fun b hb o e => by
  obtain ⟨ws, cs, r, u, h1, h2, _⟩ := S.dr
  simp only [List.mem_cons, List.not_mem_nil, or_false] at hb
  rcases hb with rfl | rfl | rfl
  · rw [h1] at e
    cases e
    trivial
  · rw [h2] at e
    cases e
    trivial
  · rw [S.at_] at e
    cases e
    trivial
theorem Shop.fresh {p : Addr} (S : Shop H d w c sh va pa t vs ps left loops asks pins) (h : H p = none) : p ≠ d ∧ p ≠ w ∧ p ≠ c ∧ p ≠ sh ∧ p ≠ va ∧ p ≠ pa :=
  ⟨(S.dr.fresh h).1, (S.dr.fresh h).2.1, (S.dr.fresh h).2.2, (ne_of_none S.at_ h).symm, (ne_of_none S.va_ h).symm, (ne_of_none S.pa_ h).symm⟩
theorem Shop.wr {p : Addr} {o : HO} (S : Shop H d w c sh va pa t vs ps left loops asks pins) (n : p ≠ d ∧ p ≠ w ∧ p ≠ c ∧ p ≠ sh ∧ p ≠ va ∧ p ≠ pa) : Shop (upd H p o) d w c sh va pa t vs ps left loops asks pins :=
  ⟨S.dr.upd n.1 n.2.1 n.2.2.1, by rw [upd_ne n.2.2.2.1.symm]; exact S.at_, by rw [upd_ne n.2.2.2.2.1.symm]; exact S.va_, by rw [upd_ne n.2.2.2.2.2.symm]; exact S.pa_, S.n1, S.n2, S.n3⟩
theorem Fr.own {S : List Addr} {H1 : Hp} {p : Addr} {o : HO} (f : Fr S H H1) (h : H p = none) : Fr S H (upd H1 p o) := Fr.mk fun b q e n => by
  rw [upd_ne (ne_of_none e h)]
  exact f.at e n
theorem sk_names : valV (skv va pa left loops asks pins) (Sum.inr ("names" : Str)) = some (.ref va) := valHit
theorem sk_parts : valV (skv va pa left loops asks pins) (Sum.inr ("parts" : Str)) = some (.ref pa) := (valMiss (kne (by decide +kernel))).trans valHit
theorem sk_left : valV (skv va pa left loops asks pins) (Sum.inr ("left" : Str)) = some (.int left) := (valMiss (kne (by decide +kernel))).trans ((valMiss (kne (by decide +kernel))).trans valHit)
theorem sk_loops : valV (skv va pa left loops asks pins) (Sum.inr ("loops" : Str)) = some (.int loops) := (valMiss (kne (by decide +kernel))).trans ((valMiss (kne (by decide +kernel))).trans ((valMiss (kne (by decide +kernel))).trans valHit))
theorem sk_asks : valV (skv va pa left loops asks pins) (Sum.inr ("asks" : Str)) = some (.bl asks) := (valMiss (kne (by decide +kernel))).trans ((valMiss (kne (by decide +kernel))).trans ((valMiss (kne (by decide +kernel))).trans ((valMiss (kne (by decide +kernel))).trans valHit)))
theorem sk_pins : valV (skv va pa left loops asks pins) (Sum.inr ("pins" : Str)) = some (.bl pins) := (valMiss (kne (by decide +kernel))).trans ((valMiss (kne (by decide +kernel))).trans ((valMiss (kne (by decide +kernel))).trans ((valMiss (kne (by decide +kernel))).trans ((valMiss (kne (by decide +kernel))).trans valHit))))
theorem Shop.gNames (S : Shop H d w c sh va pa t vs ps left loops asks pins) : DGet H sh (V.str ("names" : Str)) (some (.ref va)) := by
  rw [← sk_names (va := va) (pa := pa) (left := left) (loops := loops) (asks := asks) (pins := pins)]
  exact DGet.k (k := Sum.inr ("names" : Str)) S.at_
theorem Shop.gParts (S : Shop H d w c sh va pa t vs ps left loops asks pins) : DGet H sh (V.str ("parts" : Str)) (some (.ref pa)) := by
  rw [← sk_parts (va := va) (pa := pa) (left := left) (loops := loops) (asks := asks) (pins := pins)]
  exact DGet.k (k := Sum.inr ("parts" : Str)) S.at_
theorem Shop.gLeft (S : Shop H d w c sh va pa t vs ps left loops asks pins) : DGet H sh (V.str ("left" : Str)) (some (.int left)) := by
  rw [← sk_left (va := va) (pa := pa) (left := left) (loops := loops) (asks := asks) (pins := pins)]
  exact DGet.k (k := Sum.inr ("left" : Str)) S.at_
theorem Shop.gLoops (S : Shop H d w c sh va pa t vs ps left loops asks pins) : DGet H sh (V.str ("loops" : Str)) (some (.int loops)) := by
  rw [← sk_loops (va := va) (pa := pa) (left := left) (loops := loops) (asks := asks) (pins := pins)]
  exact DGet.k (k := Sum.inr ("loops" : Str)) S.at_
theorem Shop.gAsks (S : Shop H d w c sh va pa t vs ps left loops asks pins) : DGet H sh (V.str ("asks" : Str)) (some (.bl asks)) := by
  rw [← sk_asks (va := va) (pa := pa) (left := left) (loops := loops) (asks := asks) (pins := pins)]
  exact DGet.k (k := Sum.inr ("asks" : Str)) S.at_
theorem Shop.gPins (S : Shop H d w c sh va pa t vs ps left loops asks pins) : DGet H sh (V.str ("pins" : Str)) (some (.bl pins)) := by
  rw [← sk_pins (va := va) (pa := pa) (left := left) (loops := loops) (asks := asks) (pins := pins)]
  exact DGet.k (k := Sum.inr ("pins" : Str)) S.at_
theorem Shop.putLeft (S : Shop H d w c sh va pa t vs ps left loops asks pins) (z : Int) : DPut H sh (V.str ("left" : Str)) (.int z) (upd H sh (.dK (skv va pa z loops asks pins))) := by
  have : putK (skv va pa left loops asks pins) (Sum.inr ("left" : Str)) (.int z) = skv va pa z loops asks pins := by
    have a1 : ("names" : Str) ≠ "left" := by decide +kernel
    have a2 : ("parts" : Str) ≠ "left" := by decide +kernel
    have a3 : ("loops" : Str) ≠ "left" := by decide +kernel
    have a4 : ("asks" : Str) ≠ "left" := by decide +kernel
    have a5 : ("pins" : Str) ≠ "left" := by decide +kernel
    unfold putK skv
    simp [a1, a2, a3, a4, a5]
  rw [← this]
  exact DPut.k (k := Sum.inr ("left" : Str)) S.at_ (by show 6 < sizeLine; decide)
theorem Shop.putLoops (S : Shop H d w c sh va pa t vs ps left loops asks pins) (z : Int) : DPut H sh (V.str ("loops" : Str)) (.int z) (upd H sh (.dK (skv va pa left z asks pins))) := by
  have : putK (skv va pa left loops asks pins) (Sum.inr ("loops" : Str)) (.int z) = skv va pa left z asks pins := by
    have a1 : ("names" : Str) ≠ "loops" := by decide +kernel
    have a2 : ("parts" : Str) ≠ "loops" := by decide +kernel
    have a3 : ("left" : Str) ≠ "loops" := by decide +kernel
    have a4 : ("asks" : Str) ≠ "loops" := by decide +kernel
    have a5 : ("pins" : Str) ≠ "loops" := by decide +kernel
    unfold putK skv
    simp [a1, a2, a3, a4, a5]
  rw [← this]
  exact DPut.k (k := Sum.inr ("loops" : Str)) S.at_ (by show 6 < sizeLine; decide)
end
end Any
set_option Elab.async false
set_option linter.all false
set_option maxRecDepth 100000
set_option maxHeartbeats 4000000
/-! A drawn leaf. -/
namespace Any
open PySem PySem.Spec PyProof.Rows L2 RT
open He (ga ma)
theorem str_mem {u : V} {vs : List Str} (h : u ∈ vs.map V.str) : ∃ x ∈ vs, u = V.str x := by
  obtain ⟨x, m, rfl⟩ := List.mem_map.mp h
  exact ⟨x, m, rfl⟩
def spLeaf (K : PySem.W.Frag) : Sp := fun xs H Q _ => ∃ (d w c sh va pa : Addr) (t : Int) (vs ps : List Str) (left loops : Int) (asks pins : Bool), xs = [.ref d, .ref sh] ∧ Shop H d w c sh va pa t vs ps left loops asks pins ∧ t < 700000000 ∧ vs ≠ [] ∧ vs.length ≤ 1000 ∧ VOk vs ∧
  ∀ u e H', Shop H' d w c sh va pa (t + 4) vs ps left loops asks pins → But d w H H' → Dx K H' u e → GB vs ps 16 1 e → Q u H'
section
variable {P : Program} {w : World} {K : PySem.W.Frag} {mg : Str → Option Value} {base : Heap}
theorem scLawLeaf : FnScope ["draw", "shop", "chance", "name"] ["draw", "shop"] (defScope sLawLeaf) := ⟨rfl, rfl, rfl, by decide +kernel, rfl, by decide +kernel, by decide +kernel⟩
theorem hLawLeaf (D : DS K mg) (T : TF mg) : Has P w K mg base CX0 "_law_leaf" sLawLeaf ["draw", "shop"] 4 (spLeaf K) := by
  have hLawTake : Has P w K mg base CX0 _ _ _ 2 _ := hLawTake D T
  have hLawPick : Has P w K mg base CX0 _ _ _ 3 _ := hLawPick D T
  refine Has.mk0 D.aLawLeaf scLawLeaf (fun _ _ _ _ _ _ us hl => match us, hl with | [_, _], _ => rfl) (fun vs H Q E h => ?_) (fun cdv A outer s H vs Q E hr h => ?_)
  · obtain ⟨d, w, c, sh, va, pa, t, vs, ps, left, loops, asks, pins, rfl, _⟩ := h
    rfl
  · obtain ⟨d, w', c, sh, va, pa, t, vs, ps, left, loops, asks, pins, rfl, S, ht, ne, lvs, hv, k⟩ := h
    refine ⟨_, (pss_cons (ps_set (i := 2) scLawLeaf.nd rfl (Or.inl rfl) (pe_fn hLawTake (hr.mono (by decide)) (by rfl) (pa_cons (pv 0) (pa_cons pe_int pa_nil))))
      (pss_cons (ps_if (pt_cmpR op_lt (pv 2) pe_int (nomark _))
        (pss_one (ps_ret (pe_tup (pa_cons pe_str (pa_cons (pe_fn hLawPick (hr.mono (by decide)) (by rfl) (pa_cons (pv 0) (pa_cons (pe_lst (pa_cons pe_int (pa_cons pe_int (pa_cons pe_int (pa_cons pe_int (pa_cons pe_int (pa_cons pe_int pa_nil))))))) pa_nil))) pa_nil)))))
        pss_nil)
      (pss_cons (ps_if (PW.pt (pw_and (pt_cmpR op_eq (pv 2) pe_int (nomark _)) (pw_and1 (pt_val (pe_dget (hu_of hr) (pv 1) pe_str (fun _ _ => rfl))))))
        (pss_one (ps_ret (pe_tup (pa_cons pe_str pa_nil))))
        pss_nil)
      (pss_cons (ps_set (i := 3) scLawLeaf.nd rfl (Or.inl rfl) (pe_fn hLawPick (hr.mono (by decide)) (by rfl) (pa_cons (pv 0) (pa_cons (pe_dget (hu_of hr) (pv 1) pe_str (fun _ _ => rfl)) pa_nil))))
      (pss_one (ps_ret (pe_ifExp (PW.pt (pw_or (pt_cmpR op_lt (pv 2) pe_int (nomark _)) (pw_or1 (pt_not (pt_val (pe_dget (hu_of hr) (pv 1) pe_str (fun _ _ => rfl))))))) (pe_tup (pa_cons pe_str (pa_cons (pv 3) pa_nil))) (pe_tup (pa_cons pe_str (pa_cons (pv 3) (pa_cons (pe_fn hLawTake (hr.mono (by decide)) (by rfl) (pa_cons (pv 0) (pa_cons pe_int pa_nil))) pa_nil))))))))))), ?_⟩
    refine ⟨_, rfl, d, w', c, t, 8, rfl, S.dr, by omega, by decide, by decide, fun ch H1 c0 c8 dr1 b1 => ?_⟩
    have S1 := S.but b1 dr1
    show tSeq _ _ _ ([some (.ref d), some (.ref sh), some (.int ch), none] : L2.St) _
    refine ⟨_, rfl, _, _, rfl, rfl, _, rfl, ite2 (fun c1 => ?_) (fun c1 => ?_)⟩
    · refine ⟨_, rfl, by show 6 ≤ sizeLine; decide, fun l hl => ?_⟩
      have sl : Same H1 (upd H1 l (.lst [.int 0, .int 1, .int 1, .int 2, .int 3, .int 7])) := snew hl
      have nl := S1.dr.fresh hl
      refine ⟨d, w', c, l, t + 1, _, rfl, dr1.same sl, by omega, SqL.of upd_same, nl.1, nl.2.1, by simp, by show 6 < 1073741824; decide, fun u H2 mu dr2 b2 => ?_⟩
      obtain ⟨i, i0, i7, rfl⟩ : ∃ i : Int, 0 ≤ i ∧ i ≤ 7 ∧ u = .int i := by
        simp only [List.mem_cons, List.not_mem_nil, or_false] at mu
        rcases mu with rfl | rfl | rfl | rfl | rfl | rfl <;> exact ⟨_, by decide, by decide, rfl⟩
      refine ⟨by show 2 ≤ sizeLine; decide, fun p hp => ?_⟩
      have sp : Same H2 (upd H2 p (.tup [.str "number", .int i])) := snew hp
      refine k (.ref p) _ _ (((S1.same sl).but b2 dr2).same sp |>.mono (by omega)) (b1.trans ((But.of sl).trans (b2.trans (But.of sp)))) ?_ (gb_number i0 i7)
      exact .tup (SqT.of upd_same) (.cons (.str _) (.cons (.int i) .nil))
    refine (fun (rest : ∀ H2, H2 = H1 → (?G : Hp → Prop) H2) => ?first) ?second
    case first =>
      refine ⟨_, rfl, rfl, _, rfl, ite2 (fun c2 => ?_) (fun c2 => ?_)⟩
      · refine ⟨_, rfl, sh, _, rfl, S1.gAsks, _, rfl, ?_⟩
        cases asks with
        | true =>
          refine iteT ⟨by show 1 ≤ sizeLine; decide, fun p hp => ?_⟩
          have sp : Same H1 (upd H1 p (.tup [.str "ask"])) := snew hp
          refine k (.ref p) _ _ ((S1.same sp).mono (by omega)) (b1.trans (But.of sp)) ?_ gb_ask
          exact .tup (SqT.of upd_same) (.cons (.str _) .nil)
        | false =>
          refine iteF ?_
          exact rest H1 rfl
      · exact rest H1 rfl
    case second =>
    rintro _ rfl
    refine ⟨_, rfl, _, rfl, sh, _, rfl, S1.gNames, d, w', c, va, t + 1, _, rfl, dr1, by omega, SqL.of S1.va_, S1.ne.2.2.1, S1.n2, by simpa using ne, by rw [List.length_map]; omega, fun u H2 mu dr2 b2 => ?_⟩
    obtain ⟨x, mx, rfl⟩ := str_mem mu
    have S2 := S1.but b2 dr2
    have b02 := b1.trans b2
    have plain : ∀ p, H2 p = none → Q (.ref p) (upd H2 p (.tup [.str "name", .str x])) := fun p hp => by
      have sp : Same H2 (upd H2 p (.tup [.str "name", .str x])) := snew hp
      refine k (.ref p) _ _ ((S2.same sp).mono (by omega)) (b02.trans (But.of sp)) ?_ (gb_name hv mx)
      exact .tup (SqT.of upd_same) (.cons (.str _) (.cons (.str x) .nil))
    refine ⟨_, rfl, _, _, rfl, rfl, _, rfl, ite2 (fun c3 => ?_) (fun c3 => ?_)⟩
    · exact ⟨_, rfl, by show 2 ≤ sizeLine; decide, plain⟩
    · refine ⟨_, rfl, sh, _, rfl, S2.gPins, _, rfl, ?_⟩
      cases pins with
      | false => exact iteT ⟨_, rfl, by show 2 ≤ sizeLine; decide, plain⟩
      | true =>
        refine iteF ⟨_, rfl, _, rfl, d, w', c, t + 1 + 1, 3, rfl, dr2, by omega, by decide, by decide, fun i H3 i0 i3 dr3 b3 => ?_⟩
        refine ⟨by show 3 ≤ sizeLine; decide, fun p hp => ?_⟩
        have sp : Same H3 (upd H3 p (.tup [.str "name", .str x, .int i])) := snew hp
        refine k (.ref p) _ _ ((((S2.but b3 dr3)).same sp).mono (by omega)) (b02.trans (b3.trans (But.of sp))) ?_ (gb_pin hv mx i0 (by omega))
        exact .tup (SqT.of upd_same) (.cons (.str _) (.cons (.str x) (.cons (.int i) .nil)))
end
end Any
set_option Elab.async false
set_option linter.all false
set_option maxRecDepth 100000
set_option maxHeartbeats 4000000
/-! A drawn loop, its parts drawn by a promise of less depth. -/
namespace Any
open PySem PySem.Spec PyProof.Rows L2 RT
open He (ga ma)
def Wn : Nat → Nat
  | 0 => 16
  | n + 1 => 3 * Wn n + 48
def Tn : Nat → Int
  | 0 => 4
  | n + 1 => 3 * Tn n + 20
theorem Wn_pos : ∀ n, 16 ≤ Wn n
  | 0 => Nat.le_refl _
  | n + 1 => by
    have := Wn_pos n
    show 16 ≤ 3 * Wn n + 48
    omega
theorem Tn_pos : ∀ n, 4 ≤ Tn n
  | 0 => Int.le_refl _
  | n + 1 => by
    have := Tn_pos n
    show 4 ≤ 3 * Tn n + 20
    omega
mutual
theorem Dx.dp {K : PySem.W.Frag} {H : Hp} : ∀ {d : PyData} {v : V}, nl d = true → Dx K H v d → Dp K H v d
  | .none, _, _, .non => .non
  | .bool _, _, _, .bl b => .bl b
  | .int _, _, _, .int i => .int i
  | .str _, _, _, .str x => .str x
  | .tuple ds, _, n, .tup e r => .tup e (DxAll.dp n r)
theorem DxAll.dp {K : PySem.W.Frag} {H : Hp} : ∀ {ds : List PyData} {vs : List V}, nlA ds = true → DxAll K H vs ds → DpAll K H vs ds
  | [], _, _, .nil => .nil
  | d :: ds, _, n, .cons h r => .cons (Dx.dp (Bool.and_eq_true_iff.mp n).1 h) (DxAll.dp (Bool.and_eq_true_iff.mp n).2 r)
end
mutual
theorem lay_of : ∀ d : PyData, nl d = true → asc d = true → d.canLay0 = true
  | .none, _, _ => rfl
  | .bool _, _, _ => rfl
  | .int _, _, _ => rfl
  | .str _, _, a => asc_ok (ascS_asc a)
  | .tuple ds, n, a => lay_all ds n a
  | .list _, n, _ => nomatch n
  | .dict _, n, _ => nomatch n
theorem lay_all : ∀ ds : List PyData, nlA ds = true → ascA ds = true → PyData.canLayAll0 ds = true
  | [], _, _ => rfl
  | d :: ds, n, a => by
    show (PyData.canLay0 d && PyData.canLayAll0 ds) = true
    have n' : (nl d && nlA ds) = true := n
    have a' : (asc d && ascA ds) = true := a
    rw [Bool.and_eq_true] at n' a'
    rw [lay_of d n'.1 a'.1, lay_all ds n'.2 a'.2]
    rfl
end
theorem shaped_of {d : PyData} (n : nl d = true) (a : asc d = true) (h : d.depth ≤ 64) : SeqAt.shaped d = true := by
  unfold SeqAt.shaped
  rw [lay_of d n a, decide_eq_true h]
  rfl
theorem But.fr3 {d w sh : Addr} {H H' : Hp} (b : But d w H H') : Fr [d, w, sh] H H' := b.fr.more fun x hx => by
  simp only [List.mem_cons, List.not_mem_nil, or_false] at hx ⊢
  rcases hx with rfl | rfl
  · exact .inl rfl
  · exact .inr (.inl rfl)
def spExp (K : PySem.W.Frag) (n : Nat) : Sp := fun xs H Q _ => ∃ (d w c sh va pa : Addr) (t : Int) (vs ps : List Str) (left loops : Int) (asks pins : Bool), xs = [.ref d, .ref sh, .int (n : Nat)] ∧ Shop H d w c sh va pa t vs ps left loops asks pins ∧ t + 2 * Tn n < 600000000 ∧ vs ≠ [] ∧ vs.length ≤ 1000 ∧ VOk vs ∧ ps.length ≤ 1000 ∧ VOk ps ∧ n ≤ 10 ∧
  ∀ u e left' loops' H', Shop H' d w c sh va pa (t + Tn n) vs ps left' loops' asks pins → Fr [d, w, sh] H H' → Dx K H' u e → GB vs ps (Wn n) (1 + 3 * n) e → Q u H'
def spEx1 (K : PySem.W.Frag) : Nat → Sp
  | 0 => fun _ _ _ _ => False
  | n + 1 => spExp K n
def spLoop (K : PySem.W.Frag) (n : Nat) : Sp := fun xs H Q _ => ∃ (d w c sh va pa : Addr) (t : Int) (vs ps : List Str) (left loops : Int) (asks pins : Bool) (x : Str), xs = [.ref d, .ref sh, .int ((n + 1 : Nat) : Int), .str x] ∧ x ∈ vs ∧ Shop H d w c sh va pa t vs ps left loops asks pins ∧ t + 4 * Tn n + 20 < 600000000 ∧ vs ≠ [] ∧ vs.length ≤ 1000 ∧ VOk vs ∧ ps.length ≤ 1000 ∧ VOk ps ∧ n ≤ 9 ∧
  ∀ u e left' loops' H', Shop H' d w c sh va pa (t + 2 * Tn n + 4) vs ps left' loops' asks pins → Fr [d, w, sh] H H' → Dx K H' u e → GB vs ps (Wn (n + 1)) (1 + 3 * (n + 1)) e → Q u H'
def spLp1 (K : PySem.W.Frag) : Nat → Sp
  | 0 => fun _ _ _ _ => False
  | n + 1 => spLoop K n
section
variable {P : Program} {w : World} {K : PySem.W.Frag} {mg : Str → Option Value} {base : Heap}
theorem scLawLoop : FnScope ["draw", "shop", "deep", "name", "test"] ["draw", "shop", "deep", "name"] (defScope sLawLoop) := ⟨rfl, rfl, rfl, by decide +kernel, rfl, by decide +kernel, by decide +kernel⟩
theorem hLawLoop (D : DS K mg) (T : TF mg) : ∀ m : Nat, Has P w K mg base CX0 "_law_expression" sLawExpression ["draw", "shop", "deep"] (2 * m + 5) (spEx1 K m) → Has P w K mg base CX0 "_law_loop" sLawLoop ["draw", "shop", "deep", "name"] (2 * m + 6) (spLp1 K m) := by
  have hLawTake : Has P w K mg base CX0 _ _ _ 2 _ := hLawTake D T
  intro m ih
  cases m with
  | zero => exact Has.mk0 D.aLawLoop scLawLoop (fun _ _ _ _ _ _ us hl => match us, hl with | [_, _, _, _], _ => rfl) (fun vs H Q E h => h.elim) (fun cdv A outer s H vs Q E hr h => h.elim)
  | succ n =>
  have hLawExpression : Has P w K mg base CX0 _ _ _ (2 * (n + 1) + 5) (spExp K n) := ih
  refine Has.mk0 (k := 2 * (n + 1) + 5) D.aLawLoop scLawLoop (fun _ _ _ _ _ _ us hl => match us, hl with | [_, _, _, _], _ => rfl) (fun vs H Q E h => ?_) (fun cdv A outer s H vs Q E hr h => ?_)
  · obtain ⟨d, w, c, sh, va, pa, t, vs, ps, left, loops, asks, pins, x, rfl, _⟩ := h
    rfl
  · obtain ⟨d, w', c, sh, va, pa, t, vs, ps, left, loops, asks, pins, x, rfl, mx, S, ht, ne, lvs, hv, lps, hp, n9, k⟩ := h
    refine ⟨_, (pss_cons (ps_dput (hu_of hr) (pv 1) pe_str (pe_op op_sub (pe_dget (hu_of hr) (pv 1) pe_str (fun _ _ => rfl)) pe_int) rfl)
      (pss_cons (ps_if (pt_cmpR op_eq (pe_fn hLawTake (hr.mono (by omega)) (by rfl) (pa_cons (pv 0) (pa_cons pe_int pa_nil))) pe_int (nomark _))
        (pss_one (ps_ret (pe_tup (pa_cons pe_str (pa_cons (pe_fn hLawExpression (hr.mono (by omega)) (by rfl) (pa_cons (pv 0) (pa_cons (pv 1) (pa_cons (pe_op op_sub (pv 2) pe_int) pa_nil)))) (pa_cons (pe_fn hLawExpression (hr.mono (by omega)) (by rfl) (pa_cons (pv 0) (pa_cons (pv 1) (pa_cons (pe_op op_sub (pv 2) pe_int) pa_nil)))) pa_nil))))))
        pss_nil)
      (pss_cons (ps_set (i := 4) scLawLoop.nd rfl (Or.inl rfl) (pe_ifExp (pt_cmpR op_eq (pe_fn hLawTake (hr.mono (by omega)) (by rfl) (pa_cons (pv 0) (pa_cons pe_int pa_nil))) pe_int (nomark _)) (pe_tup (pa_cons pe_str (pa_cons (pe_tup (pa_cons pe_str (pa_cons (pv 3) pa_nil))) (pa_cons (pe_tup (pa_cons pe_str (pa_cons (pe_op op_add pe_int (pe_fn hLawTake (hr.mono (by omega)) (by rfl) (pa_cons (pv 0) (pa_cons pe_int pa_nil)))) pa_nil))) pa_nil)))) (pe_tup (pa_cons pe_str pa_nil))))
      (pss_cons (ps_set (i := 4) scLawLoop.nd rfl (Or.inl rfl) (pe_ifExp (PW.pt (pw_or (pt_val (pe_dget (hu_of hr) (pv 1) pe_str (fun _ _ => rfl))) (pw_or1 (pt_cmpR (op_neD hr.units) (pv 4) (pe_tup (pa_cons pe_str pa_nil)) (nomark _))))) (pv 4) (pe_tup (pa_cons pe_str (pa_cons (pv 3) pa_nil)))))
      (pss_one (ps_ret (pe_tup (pa_cons pe_str (pa_cons (pv 4) (pa_cons (pe_tup (pa_cons pe_str (pa_cons (pv 3) (pa_cons (pe_fn hLawExpression (hr.mono (by omega)) (by rfl) (pa_cons (pv 0) (pa_cons (pv 1) (pa_cons (pe_op op_sub (pv 2) pe_int) pa_nil)))) pa_nil)))) pa_nil)))))))))), ?_⟩
    have T0 := Tn_pos n
    have W0 := Wn_pos n
    have e1 : (((n + 1 : Nat) : Int) - 1) = (n : Int) := by omega
    have WS : Wn (n + 1) = 3 * Wn n + 48 := rfl
    have ea : ([V.ref d, V.ref sh, V.int (((n + 1 : Nat) : Int) - 1)] : List V) = [.ref d, .ref sh, .int (n : Nat)] := by rw [e1]
    refine ⟨_, rfl, sh, _, rfl, S.gLoops, _, _, rfl, rfl, _, rfl, sh, _, rfl, S.putLoops (loops - 1), ?_⟩
    have S0 := S.set left (loops - 1)
    have f0 : Fr [d, w', sh] H (upd H sh (.dK (skv va pa left (loops - 1) asks pins))) := Fr.set (by simp)
    generalize upd H sh (.dK (skv va pa left (loops - 1) asks pins)) = H0 at S0 f0 ⊢
    refine ⟨_, rfl, d, w', c, t, 3, rfl, S0.dr, by omega, by decide, by decide, fun i H1 i0 i3 dr1 b1 => ⟨rfl, _, rfl, ite2 (fun c1 => ?_) (fun c1 => ?_)⟩⟩
    · have S1 := S0.but b1 dr1
      have f1 := f0.trans (b1.fr3 (sh := sh))
      refine ⟨_, rfl, _, rfl, _, rfl, _, _, rfl, rfl, d, w', c, sh, va, pa, t + 1, vs, ps, left, loops - 1, asks, pins, ea, S1, by omega, ne, lvs, hv, lps, hp, by omega, fun u1 e1' l1 o1 H2 S2 f2 hu1 g1 => ?_⟩
      refine ⟨_, rfl, _, rfl, _, rfl, _, _, rfl, rfl, d, w', c, sh, va, pa, t + 1 + Tn n, vs, ps, l1, o1, asks, pins, ea, S2, by omega, ne, lvs, hv, lps, hp, by omega, fun u2 e2' l2 o2 H3 S3 f3 hu2 g2 => ?_⟩
      have hu13 := (f3.tst S2.mt).dx (nl_ex g1.ex) hu1
      refine ⟨by show 3 ≤ sizeLine; decide, fun p hp' => ?_⟩
      have sp : Same H3 (upd H3 p (.tup [.str "while", u1, u2])) := snew hp'
      refine k (.ref p) _ l2 o2 _ ((S3.same sp).mono (by omega)) (f1.trans (f2.trans (f3.trans (Fr.of sp)))) ?_ ((gb_two (h := "while") (by decide +kernel) g1 g2).mono (by omega) (by omega))
      exact .tup (SqT.of upd_same) (.cons (.str _) (.cons (dxSame sp _ _ hu13) (.cons (dxSame sp _ _ hu2) .nil)))
    · have S1 := S0.but b1 dr1
      have f1 := f0.trans (b1.fr3 (sh := sh))
      refine (fun (rest : ∀ (A : Addr) (H2 : Hp), (∃ te, Dx K H2 (.ref A) te ∧ GB vs ps 45 2 te ∧ Shop H2 d w' c sh va pa (t + 4) vs ps left (loops - 1) asks pins ∧ Fr [d, w', sh] H H2) → (?G : Addr → Hp → Prop) A H2) => ?first) ?second
      case first =>
        refine ⟨_, rfl, d, w', c, t + 1, 2, rfl, S1.dr, by omega, by decide, by decide, fun j H2 j0 j2 dr2 b2 => ⟨rfl, _, rfl, ite2 (fun c2 => ?_) (fun c2 => ?_)⟩⟩
        · have S2 := S1.but b2 dr2
          have f2 := f1.trans (b2.fr3 (sh := sh))
          refine ⟨_, rfl, by show 2 ≤ sizeLine; decide, fun p1 h1 => ?_⟩
          have s1 : Same H2 (upd H2 p1 (.tup [.str "name", .str x])) := snew h1
          have u1 : Dx K (upd H2 p1 (.tup [.str "name", .str x])) (.ref p1) (.tuple [.str "name", .str x]) := .tup (SqT.of upd_same) (.cons (.str _) (.cons (.str x) .nil))
          generalize upd H2 p1 (.tup [.str "name", .str x]) = G1 at s1 u1 ⊢
          have S3 := S2.same s1
          refine ⟨_, rfl, d, w', c, t + 1 + 1, 2, rfl, S3.dr, by omega, by decide, by decide, fun y H3 y0 y2 dr3 b3 => ⟨_, _, rfl, rfl, by show 2 ≤ sizeLine; decide, fun p2 h2 => ?_⟩⟩
          have S4 := S3.but b3 dr3
          have f4 := f2.trans ((Fr.of s1).trans (b3.fr3 (sh := sh)))
          have u14 := ((b3.fr3 (sh := sh)).tst S3.mt).dx (nl_ex (gb_name (ps := ps) hv mx).ex) u1
          have s5 : Same H3 (upd H3 p2 (.tup [.str "number", .int (1 + y)])) := snew h2
          have u5 : Dx K (upd H3 p2 (.tup [.str "number", .int (1 + y)])) (.ref p2) (.tuple [.str "number", .int (1 + y)]) := .tup (SqT.of upd_same) (.cons (.str _) (.cons (.int _) .nil))
          generalize upd H3 p2 (.tup [.str "number", .int (1 + y)]) = G5 at s5 u5 ⊢
          refine ⟨by show 3 ≤ sizeLine; decide, fun p3 h3 => ?_⟩
          have s6 : Same G5 (upd G5 p3 (.tup [.str "less", .ref p1, .ref p2])) := snew h3
          have u6 : Dx K (upd G5 p3 (.tup [.str "less", .ref p1, .ref p2])) (.ref p3) (.tuple [.str "less", .tuple [.str "name", .str x], .tuple [.str "number", .int (1 + y)]]) := .tup (SqT.of upd_same) (.cons (.str _) (.cons (dxSame (s5.trans s6) _ _ u14) (.cons (dxSame s6 _ _ u5) .nil)))
          have S6 := S4.same (s5.trans s6)
          have f6 := f4.trans (Fr.of (s5.trans s6))
          generalize upd G5 p3 (.tup [.str "less", .ref p1, .ref p2]) = G6 at u6 S6 f6 ⊢
          have g6 : GB vs ps 45 2 (.tuple [.str "less", .tuple [.str "name", .str x], .tuple [.str "number", .int (1 + y)]]) := gb_op (h := "less") (more := []) (by decide +kernel) (.inl rfl) (gb_name hv mx) (gb_number (by omega) (by omega))
          exact rest p3 G6 ⟨_, u6, g6, S6.mono (by omega), f6⟩
        · have S2 := S1.but b2 dr2
          have f2 := f1.trans (b2.fr3 (sh := sh))
          refine ⟨by show 1 ≤ sizeLine; decide, fun p1 h1 => ?_⟩
          have s1 : Same H2 (upd H2 p1 (.tup [.str "ask"])) := snew h1
          have u1 : Dx K (upd H2 p1 (.tup [.str "ask"])) (.ref p1) (.tuple [.str "ask"]) := .tup (SqT.of upd_same) (.cons (.str _) .nil)
          have S3 := S2.same s1
          have f3 := f2.trans (Fr.of s1)
          generalize upd H2 p1 (.tup [.str "ask"]) = G1 at u1 S3 f3 ⊢
          exact rest p1 G1 ⟨_, u1, gb_ask.mono (by decide) (by decide), S3.mono (by omega), f3⟩
      case second =>
      rintro A H2 ⟨te, hA, gA, S2, f2⟩
      refine (fun (rest : ∀ (A : Addr) (H3 : Hp), (∃ te, Dx K H3 (.ref A) te ∧ GB vs ps 45 2 te ∧ Shop H3 d w' c sh va pa (t + 4) vs ps left (loops - 1) asks pins ∧ Fr [d, w', sh] H H3) → (?G2 : Addr → Hp → Prop) A H3) => ?first2) ?second2
      case first2 =>
        refine ⟨_, rfl, sh, _, rfl, S2.gAsks, _, rfl, ite2 (fun ca => ?_) (fun ca => ?_)⟩
        rotate_left
        · refine ⟨_, rfl, by show 1 ≤ sizeLine; decide, fun q hq => ?_⟩
          have sq : Same H2 (upd H2 q (.tup [.str "ask"])) := snew hq
          have uq : Dx K (upd H2 q (.tup [.str "ask"])) (.ref q) (.tuple [.str "ask"]) := .tup (SqT.of upd_same) (.cons (.str _) .nil)
          have S3 := S2.same sq
          have f3 := f2.trans (Fr.of sq)
          have hA3 := dxSame sq _ _ hA
          have nt := nl_ex gA.ex
          generalize upd H2 q (.tup [.str "ask"]) = G1 at uq S3 f3 hA3 ⊢
          refine ⟨te, .tuple [.str "ask"], hA3.dp nt, uq.dp rfl, shaped_of nt gA.asc (by have := gA.dep; omega), shaped_of rfl (by decide +kernel) (by decide), _, rfl, ?_⟩
          cases PyData.eqv te (.tuple [.str "ask"]) with
          | true =>
            refine iteF ⟨_, rfl, by show 2 ≤ sizeLine; decide, fun p hp' => ?_⟩
            have sp : Same G1 (upd G1 p (.tup [.str "name", .str x])) := snew hp'
            have up : Dx K (upd G1 p (.tup [.str "name", .str x])) (.ref p) (.tuple [.str "name", .str x]) := .tup (SqT.of upd_same) (.cons (.str _) (.cons (.str x) .nil))
            have S4 := S3.same sp
            have f4 := f3.trans (Fr.of sp)
            generalize upd G1 p (.tup [.str "name", .str x]) = G2 at up S4 f4 ⊢
            exact rest p G2 ⟨_, up, (gb_name hv mx).mono (by decide) (by decide), S4, f4⟩
          | false =>
            refine iteT ⟨_, rfl, ?_⟩
            exact rest A G1 ⟨te, hA3, gA, S3, f3⟩
        · refine ⟨_, rfl, ?_⟩
          exact rest A H2 ⟨te, hA, gA, S2, f2⟩
      case second2 =>
      rintro A H3 ⟨te, hA, gA, S3, f3⟩
      refine ⟨_, rfl, _, rfl, _, rfl, _, rfl, _, rfl, _, _, rfl, rfl, d, w', c, sh, va, pa, t + 4, vs, ps, left, loops - 1, asks, pins, ea, S3, by omega, ne, lvs, hv, lps, hp, by omega, fun u2 e2' l2 o2 H4 S4 f4 hu2 g2 => ?_⟩
      have hA4 := (f4.tst S3.mt).dx (nl_ex gA.ex) hA
      refine ⟨by show 3 ≤ sizeLine; decide, fun p1 h1 => ?_⟩
      have s1 : Same H4 (upd H4 p1 (.tup [.str "set", .str x, u2])) := snew h1
      have u1 : Dx K (upd H4 p1 (.tup [.str "set", .str x, u2])) (.ref p1) (.tuple [.str "set", .str x, e2']) := .tup (SqT.of upd_same) (.cons (.str _) (.cons (.str x) (.cons (dxSame s1 _ _ hu2) .nil)))
      generalize upd H4 p1 (.tup [.str "set", .str x, u2]) = G1 at s1 u1 ⊢
      refine ⟨by show 3 ≤ sizeLine; decide, fun p2 h2 => ?_⟩
      have s2 : Same G1 (upd G1 p2 (.tup [.str "while", .ref A, .ref p1])) := snew h2
      have gs := gb_set hv mx g2
      refine k (.ref p2) (.tuple [.str "while", te, .tuple [.str "set", .str x, e2']]) l2 o2 _ ((S4.same (s1.trans s2)).mono (by omega)) (f3.trans (f4.trans (Fr.of (s1.trans s2)))) ?_ ((gb_two (h := "while") (by decide +kernel) (gA.mono (Nat.le_refl _) (by omega)) gs).mono (by omega) (by omega))
      exact .tup (SqT.of upd_same) (.cons (.str _) (.cons (dxSame (s1.trans s2) _ _ hA4) (.cons (dxSame s2 _ _ u1) .nil)))
end
end Any
set_option Elab.async false
set_option linter.all false
set_option maxRecDepth 100000
set_option maxHeartbeats 8000000
/-! Drawn expressions. -/
namespace Any
open PySem PySem.Spec PyProof.Rows L2 RT
open He (ga ma)
def tjf (n : Nat) : Nat → Int
  | 0 => 0
  | j + 1 => tjf n j + Tn n
section
variable {P : Program} {w : World} {K : PySem.W.Frag} {mg : Str → Option Value} {base : Heap}
theorem scLawExpression : FnScope ["draw", "shop", "deep", "chance", "name", "some", "parts", "low", "k"] ["draw", "shop", "deep"] (defScope sLawExpression) := ⟨rfl, rfl, rfl, by decide +kernel, rfl, by decide +kernel, by decide +kernel⟩
theorem hLawExp1 (D : DS K mg) (T : TF mg) : ∀ m : Nat, Has P w K mg base CX0 "_law_expression" sLawExpression ["draw", "shop", "deep"] (2 * m + 5) (spEx1 K m) := by
  have hLawTake : Has P w K mg base CX0 _ _ _ 2 _ := hLawTake D T
  have hLawPick : Has P w K mg base CX0 _ _ _ 3 _ := hLawPick D T
  have hLawLeaf : Has P w K mg base CX0 _ _ _ 4 _ := hLawLeaf D T
  have hLawOps : Has P w K mg base CX0 _ _ _ 1 _ := hLawOps D
  intro m
  induction m with
  | zero => exact Has.mk0 D.aLawExpression scLawExpression (fun _ _ _ _ _ _ us hl => match us, hl with | [_, _, _], _ => rfl) (fun vs H Q E h => h.elim) (fun cdv A outer s H vs Q E hr h => h.elim)
  | succ m ih =>
  have hLawExpression : Has P w K mg base CX0 _ _ _ (2 * m + 5) (spEx1 K m) := ih
  have hLawLoop : Has P w K mg base CX0 _ _ _ (2 * m + 6) (spLp1 K m) := hLawLoop D T m ih
  refine Has.mk0 (k := 2 * (m + 1) + 4) D.aLawExpression scLawExpression (fun _ _ _ _ _ _ us hl => match us, hl with | [_, _, _], _ => rfl) (fun vs H Q E h => ?_) (fun cdv A outer s H vs Q E hr h => ?_)
  · obtain ⟨d, w, c, sh, va, pa, t, vs, ps, left, loops, asks, pins, rfl, _⟩ := h
    rfl
  · obtain ⟨d, w', c, sh, va, pa, t, vs, ps, left, loops, asks, pins, rfl, S, ht, ne, lvs, hv, lps, hp, n9, k⟩ := h
    refine ⟨_, (pss_cons (ps_dput (hu_of hr) (pv 1) pe_str (pe_op op_sub (pe_dget (hu_of hr) (pv 1) pe_str (fun _ _ => rfl)) pe_int) rfl)
      (pss_cons (ps_if (PW.pt (pw_or (pt_cmpR op_eq (pv 2) pe_int (nomark _)) (pw_or1 (pt_cmpR op_le (pe_dget (hu_of hr) (pv 1) pe_str (fun _ _ => rfl)) pe_int (nomark _)))))
        (pss_one (ps_ret (pe_fn hLawLeaf (hr.mono (by omega)) (by rfl) (pa_cons (pv 0) (pa_cons (pv 1) pa_nil)))))
        pss_nil)
      (pss_cons (ps_par (i := 3) (j := 4) rfl scLawExpression.nd rfl rfl (by decide) rfl rfl (pa_cons (pe_fn hLawTake (hr.mono (by omega)) (by rfl) (pa_cons (pv 0) (pa_cons pe_int pa_nil))) (pa_cons (pe_fn hLawPick (hr.mono (by omega)) (by rfl) (pa_cons (pv 0) (pa_cons (pe_dget (hu_of hr) (pv 1) pe_str (fun _ _ => rfl)) pa_nil))) pa_nil)) (by rfl))
      (pss_cons (ps_if (pt_cmpR op_lt (pv 3) pe_int (nomark _))
        (pss_cons (ps_set (i := 5) scLawExpression.nd rfl (Or.inl rfl) (pe_lst (pa_cons (pe_fn hLawExpression (hr.mono (by omega)) (by rfl) (pa_cons (pv 0) (pa_cons (pv 1) (pa_cons (pe_op op_sub (pv 2) pe_int) pa_nil)))) (pa_cons (pe_fn hLawExpression (hr.mono (by omega)) (by rfl) (pa_cons (pv 0) (pa_cons (pv 1) (pa_cons (pe_op op_sub (pv 2) pe_int) pa_nil)))) pa_nil))))
        (pss_cons (ps_if (pt_cmpR op_lt (pv 3) pe_int (nomark _))
          (pss_cons (ps_asg (pe_ix ix_tup (pe_tup (pa_cons (pe_tup (pa_cons pe_str (pa_cons (pv 4) (pa_cons (pe_ix ix_list (pv 5) pe_int (fun _ _ => rfl)) pa_nil)))) (pa_cons (pe_tup (pa_cons pe_str (pa_cons (pe_ix ix_list (pv 5) pe_int (fun _ _ => rfl)) pa_nil))) (pa_cons (pe_tup (pa_cons pe_str (pa_cons (pe_tup (pa_cons pe_str (pa_cons (pv 4) (pa_cons (pe_ix ix_list (pv 5) pe_int (fun _ _ => rfl)) pa_nil)))) (pa_cons (pe_tup (pa_cons pe_str (pa_cons pe_int pa_nil))) pa_nil)))) pa_nil)))) (pv 3) (fun _ _ => rfl)) (pg_sub (pv 5) pe_int set_list))
          (pss_one (ps_set (i := 5) scLawExpression.nd rfl (Or.inl rfl) (pe_stpL (pe_lst (pa_cons (pe_ix ix_list (pv 5) pe_int (fun _ _ => rfl)) (pa_cons (pe_ifExp (pt_cmpR op_ne (pv 3) pe_int (nomark _)) (pe_tup (pa_cons pe_str (pa_cons (pv 4) pa_nil))) (pe_tup (pa_cons pe_str (pa_cons (pe_ix ix_list (pv 5) pe_int (fun _ _ => rfl)) pa_nil)))) pa_nil))) (pe_fn hLawPick (hr.mono (by omega)) (by rfl) (pa_cons (pv 0) (pa_cons (pe_lst (pa_cons pe_int (pa_cons (pe_un un_neg pe_int) pa_nil))) pa_nil)))))))
          pss_nil)
        (pss_cons (ps_set (i := 6) scLawExpression.nd rfl (Or.inl rfl) (pe_tup (pa_cons (pe_fn hLawPick (hr.mono (by omega)) (by rfl) (pa_cons (pv 0) (pa_cons (pe_slice sl_list (pe_fn0 hLawOps (hr.mono (by omega)) (by rfl)) po_none (po_some (pe_fn hLawPick (hr.mono (by omega)) (by rfl) (pa_cons (pv 0) (pa_cons (pe_lst (pa_cons pe_int (pa_cons pe_int (pa_cons pe_int (pa_cons pe_int pa_nil))))) pa_nil))))) pa_nil))) (pa_cons (pe_ix ix_list (pv 5) pe_int (fun _ _ => rfl)) (pa_cons (pe_ix ix_list (pv 5) pe_int (fun _ _ => rfl)) pa_nil)))))
        (pss_one (ps_ret (pe_op op_catA (pv 6) (pe_ifExp (PW.pt (pw_and (pt_val (pe_dget (hu_of hr) (pv 1) pe_str (fun _ _ => rfl))) (pw_and1 (pt_cmpR op_eq (pe_fn hLawTake (hr.mono (by omega)) (by rfl) (pa_cons (pv 0) (pa_cons pe_int pa_nil))) pe_int (nomark _))))) (pe_tup (pa_cons (pe_fn hLawPick (hr.mono (by omega)) (by rfl) (pa_cons (pv 0) (pa_cons (pe_lst (pa_cons pe_str (pa_cons pe_str pa_nil))) pa_nil))) pa_nil)) (pe_tup pa_nil))))))))
        pss_nil)
      (pss_cons (ps_if (pt_cmpR op_lt (pv 3) pe_int (nomark _))
        (pss_one (ps_ret (pe_tup (pa_cons pe_str (pa_cons (pv 4) (pa_cons (pe_fn hLawExpression (hr.mono (by omega)) (by rfl) (pa_cons (pv 0) (pa_cons (pv 1) (pa_cons (pe_op op_sub (pv 2) pe_int) pa_nil)))) pa_nil))))))
        pss_nil)
      (pss_cons (ps_if (pt_cmpR op_lt (pv 3) pe_int (nomark _))
        (pss_one (ps_ret (pe_tup (pa_cons pe_str (pa_cons (pe_fn hLawExpression (hr.mono (by omega)) (by rfl) (pa_cons (pv 0) (pa_cons (pv 1) (pa_cons (pe_op op_sub (pv 2) pe_int) pa_nil)))) pa_nil)))))
        pss_nil)
      (pss_cons (ps_if (pt_cmpR op_eq (pv 3) pe_int (nomark _))
        (pss_one (ps_ret (pe_op op_catA (pe_tup (pa_cons pe_str pa_nil)) (pe_callTy call_tuple_of (by rfl) T.tuple (by decide +kernel) (pa_cons (pe_lc (own := [("k", 8)]) (g := (gName 8)) rfl scLawExpression.nd (pi_range1 (by rfl) T.range (pa_cons pe_int pa_nil)) (blkOk_by (own := [("k", 8)]) (N := ["draw", "shop", "deep", "chance", "name", "some", "parts", "low", "k"]) (sc := defScope sLawExpression) (by decide +kernel)) (fun _ _ _ _ _ => (pg_name (i := 8) scLawExpression.nd rfl (Or.inl rfl))) (fun _ _ _ _ _ => pts_nil) (fun _ _ _ _ _ => (pe_fn hLawExpression (hr.mono (by omega)) (by rfl) (pa_cons (pv 0) (pa_cons (pv 1) (pa_cons (pe_op op_sub (pv 2) pe_int) pa_nil)))))) pa_nil)))))
        pss_nil)
      (pss_cons (ps_if (PW.pt (pw_and (pt_cmpR op_eq (pv 3) pe_int (nomark _)) (pw_and1 (pt_cmpR (op_neD hr.units) (pe_dget (hu_of hr) (pv 1) pe_str (fun _ _ => rfl)) (pe_lst pa_nil) (nomark _)))))
        (pss_one (ps_ret (pe_tup (pa_cons pe_str (pa_cons (pe_fn hLawPick (hr.mono (by omega)) (by rfl) (pa_cons (pv 0) (pa_cons (pe_dget (hu_of hr) (pv 1) pe_str (fun _ _ => rfl)) pa_nil))) pa_nil)))))
        pss_nil)
      (pss_cons (ps_if (PW.pt (pw_and (pt_cmpR op_eq (pv 3) pe_int (nomark _)) (pw_and1 (pt_cmpR op_gt (pe_dget (hu_of hr) (pv 1) pe_str (fun _ _ => rfl)) pe_int (nomark _)))))
        (pss_one (ps_ret (pe_fn hLawLoop (hr.mono (by omega)) (by rfl) (pa_cons (pv 0) (pa_cons (pv 1) (pa_cons (pv 2) (pa_cons (pv 4) pa_nil)))))))
        pss_nil)
      (pss_cons (ps_if (PW.pt (pw_and (pt_cmpR op_eq (pv 3) pe_int (nomark _)) (pw_and1 (pt_cmpR op_gt (pe_dget (hu_of hr) (pv 1) pe_str (fun _ _ => rfl)) pe_int (nomark _)))))
        (pss_cons (ps_dput (hu_of hr) (pv 1) pe_str (pe_op op_sub (pe_dget (hu_of hr) (pv 1) pe_str (fun _ _ => rfl)) pe_int) rfl)
        (pss_cons (ps_set (i := 7) scLawExpression.nd rfl (Or.inl rfl) (pe_fn hLawTake (hr.mono (by omega)) (by rfl) (pa_cons (pv 0) (pa_cons pe_int pa_nil))))
        (pss_cons (ps_set (i := 6) scLawExpression.nd rfl (Or.inl rfl) (pe_tup (pa_cons pe_str (pa_cons (pv 4) (pa_cons (pv 7) (pa_cons (pe_op op_add (pv 7) (pe_fn hLawTake (hr.mono (by omega)) (by rfl) (pa_cons (pv 0) (pa_cons pe_int pa_nil)))) (pa_cons (pe_fn hLawExpression (hr.mono (by omega)) (by rfl) (pa_cons (pv 0) (pa_cons (pv 1) (pa_cons (pe_op op_sub (pv 2) pe_int) pa_nil)))) pa_nil)))))))
        (pss_one (ps_ret (pe_op op_catA (pv 6) (pe_ifExp (PW.pt (pw_and (pt_val (pe_dget (hu_of hr) (pv 1) pe_str (fun _ _ => rfl))) (pw_and1 (pt_cmpR op_eq (pe_fn hLawTake (hr.mono (by omega)) (by rfl) (pa_cons (pv 0) (pa_cons pe_int pa_nil))) pe_int (nomark _))))) (pe_tup (pa_cons (pe_fn hLawPick (hr.mono (by omega)) (by rfl) (pa_cons (pv 0) (pa_cons (pe_lst (pa_cons pe_str (pa_cons pe_str pa_nil))) pa_nil))) pa_nil)) (pe_tup pa_nil))))))))
        pss_nil)
      (pss_cons (ps_if (pt_cmpR op_lt (pv 3) pe_int (nomark _))
        (pss_one (ps_ret (pe_tup (pa_cons pe_str (pa_cons (pe_fn hLawExpression (hr.mono (by omega)) (by rfl) (pa_cons (pv 0) (pa_cons (pv 1) (pa_cons (pe_op op_sub (pv 2) pe_int) pa_nil)))) (pa_cons (pe_fn hLawExpression (hr.mono (by omega)) (by rfl) (pa_cons (pv 0) (pa_cons (pv 1) (pa_cons (pe_op op_sub (pv 2) pe_int) pa_nil)))) pa_nil))))))
        pss_nil)
      (pss_one (ps_ret (pe_fn hLawLeaf (hr.mono (by omega)) (by rfl) (pa_cons (pv 0) (pa_cons (pv 1) pa_nil)))))))))))))))), ?_⟩
    have T0 := Tn_pos m
    have W0 := Wn_pos m
    have leafS : ∀ {H1 : Hp} {t1 l1 o1 : Int}, Shop H1 d w' c sh va pa t1 vs ps l1 o1 asks pins → Fr [d, w', sh] H H1 → t1 + 4 ≤ t + Tn m → spLeaf K [.ref d, .ref sh] H1 Q E0 := fun {H1 t1 l1 o1} S1 f1 h =>
      ⟨d, w', c, sh, va, pa, t1, vs, ps, l1, o1, asks, pins, rfl, S1, by omega, ne, lvs, hv, fun u e H' S' b' hu g => k u e l1 o1 H' (S'.mono (by omega)) (f1.trans b'.fr3) hu (g.mono (by omega) (by omega))⟩
    refine ⟨_, rfl, sh, _, rfl, S.gLeft, _, _, rfl, rfl, _, rfl, sh, _, rfl, S.putLeft (left - 1), ?_⟩
    have S0 := S.set (left - 1) loops
    have f0 : Fr [d, w', sh] H (upd H sh (.dK (skv va pa (left - 1) loops asks pins))) := Fr.set (by simp)
    generalize upd H sh (.dK (skv va pa (left - 1) loops asks pins)) = H0 at S0 f0 ⊢
    refine ⟨_, rfl, rfl, _, rfl, ite2 (fun c1 => ⟨_, rfl, _, rfl, leafS S0 f0 (by omega)⟩) (fun c1 => ⟨_, rfl, sh, _, rfl, S0.gLeft, _, _, rfl, rfl, _, rfl, ite2 (fun c2 => ⟨_, rfl, _, rfl, leafS S0 f0 (by omega)⟩) (fun c2 => ?_)⟩)⟩
    obtain ⟨n, rfl⟩ : ∃ n, m = n + 1 := by
      cases m with
      | zero => exact absurd (decide_eq_true rfl) c1
      | succ n => exact ⟨n, rfl⟩
    have TS : Tn (n + 1) = 3 * Tn n + 20 := rfl
    have WS : Wn (n + 1) = 3 * Wn n + 48 := rfl
    have T0' := Tn_pos n
    have W0' := Wn_pos n
    have e1 : (((n + 1 : Nat) : Int) - 1) = (n : Int) := by omega
    have ea : ([V.ref d, V.ref sh, V.int (((n + 1 : Nat) : Int) - 1)] : List V) = [.ref d, .ref sh, .int (n : Nat)] := by rw [e1]
    refine ⟨_, rfl, d, w', c, t, 16, rfl, S0.dr, by omega, by decide, by decide, fun ch H1 c0 c16 dr1 b1 => ?_⟩
    have S1 := S0.but b1 dr1
    refine ⟨_, rfl, _, rfl, sh, _, rfl, S1.gNames, d, w', c, va, t + 1, _, rfl, dr1, by omega, SqL.of S1.va_, S1.ne.2.2.1, S1.n2, by simpa using ne, by rw [List.length_map]; omega, fun u H2 mu dr2 b2 => ⟨_, _, rfl, ?_⟩⟩
    obtain ⟨x, mx, rfl⟩ := str_mem mu
    have S2 := S1.but b2 dr2
    have f2 := f0.trans ((b1.fr3 (sh := sh)).trans (b2.fr3 (sh := sh)))
    show tSeq _ _ _ ([some (.ref d), some (.ref sh), some (.int ((n + 1 : Nat) : Int)), some (.int ch), some (.str x), none, none, none, none] : L2.St) _
    clear c1 c2 S1 S0 f0 b1 b2 dr1 dr2 S mu
    refine ⟨_, rfl, _, _, rfl, rfl, _, rfl, ite2 (fun a6 => ?_) (fun a6 => ?_)⟩
    · have c6 : ch < 6 := of_decide_eq_true a6
      refine ⟨_, rfl, _, rfl, _, rfl, _, _, rfl, rfl, d, w', c, sh, va, pa, t + 1 + 1, vs, ps, left - 1, loops, asks, pins, ea, S2, by omega, ne, lvs, hv, lps, hp, by omega, fun u1 y1 l1 o1 H3 S3 f3 hu1 g1 => ?_⟩
      refine ⟨_, rfl, _, rfl, _, rfl, _, _, rfl, rfl, d, w', c, sh, va, pa, t + 1 + 1 + Tn n, vs, ps, l1, o1, asks, pins, ea, S3, by omega, ne, lvs, hv, lps, hp, by omega, fun u2 y2 l2 o2 H4 S4 f4 hu2 g2 => ?_⟩
      have hu14 := (f4.tst S3.mt).dx (nl_ex g1.ex) hu1
      refine ⟨by show 2 ≤ sizeLine; decide, fun L hL => ?_⟩
      have sL : Same H4 (upd H4 L (.lst [u1, u2])) := snew hL
      have eL : (upd H4 L (.lst [u1, u2])) L = some (.lst [u1, u2]) := upd_same
      have hu15 := dxSame sL _ _ hu14
      have hu25 := dxSame sL _ _ hu2
      have S5 := S4.same sL
      have f5 := f2.trans (f3.trans (f4.trans (Fr.of sL)))
      have nL := S4.fresh hL
      have hLH : H L = none := (f2.trans (f3.trans f4)).free hL (by simp only [List.mem_cons, List.not_mem_nil, or_false, not_or]; exact ⟨nL.1, nL.2.1, nL.2.2.2.1⟩)
      generalize upd H4 L (.lst [u1, u2]) = H5 at eL hu15 hu25 S5 f5 ⊢
      show tSeq _ _ _ ([some (.ref d), some (.ref sh), some (.int ((n + 1 : Nat) : Int)), some (.int ch), some (.str x), some (.ref L), none, none, none] : L2.St) _
      clear S2 S3 S4 f2 f3 f4 hu1 hu2 hu14 sL a6
      refine (fun (rest : ∀ (M : Addr) (H6 : Hp), (∃ (v1 v2 : V) (z1 z2 : PyData), H6 M = some (.lst [v1, v2]) ∧ Dx K H6 v1 z1 ∧ Dx K H6 v2 z2 ∧ exD z1 = true ∧ exD z2 = true ∧ (∀ h more, h ∈ Exq.opsN → (more = [] ∨ more = [.str "left"] ∨ more = [.str "right"]) → GB vs ps (Wn (n + 1)) (1 + 3 * (n + 1)) (.tuple ([.str h, z1, z2] ++ more))) ∧ M ≠ d ∧ M ≠ w' ∧ Shop H6 d w' c sh va pa (t + 1 + 1 + 2 * Tn n + 1) vs ps l2 o2 asks pins ∧ Fr [d, w', sh] H H6) → (?G5 : Addr → Hp → Prop) M H6) => ?first5) ?second5
      case first5 =>
        refine ⟨_, rfl, _, _, rfl, rfl, _, rfl, ite2 (fun a3 => ?_) (fun a3 => ?_)⟩
        · have c3 : ch < 3 := of_decide_eq_true a3
          refine ⟨_, rfl, _, rfl, L, _, _, _, rfl, rfl, SqL.of eL, atI_nat (j := 0) rfl, by show 3 ≤ sizeLine; decide, fun p1 h1 => ?_⟩
          have s1 : Same H5 (upd H5 p1 (.tup [.str "set", .str x, u1])) := snew h1
          have t1 : Dx K (upd H5 p1 (.tup [.str "set", .str x, u1])) (.ref p1) (.tuple [.str "set", .str x, y1]) := .tup (SqT.of upd_same) (.cons (.str _) (.cons (.str x) (.cons (dxSame s1 _ _ hu15) .nil)))
          generalize upd H5 p1 (.tup [.str "set", .str x, u1]) = G1 at s1 t1 ⊢
          have eL1 := s1 _ _ eL
          refine ⟨_, rfl, L, _, _, _, rfl, rfl, SqL.of eL1, atI_nat (j := 0) rfl, by show 2 ≤ sizeLine; decide, fun p2 h2 => ?_⟩
          have s2 : Same G1 (upd G1 p2 (.tup [.str "show", u1])) := snew h2
          have t2 : Dx K (upd G1 p2 (.tup [.str "show", u1])) (.ref p2) (.tuple [.str "show", y1]) := .tup (SqT.of upd_same) (.cons (.str _) (.cons (dxSame (s1.trans s2) _ _ hu15) .nil))
          generalize upd G1 p2 (.tup [.str "show", u1]) = G2 at s2 t2 ⊢
          have eL2 := s2 _ _ eL1
          refine ⟨_, rfl, _, rfl, L, _, _, _, rfl, rfl, SqL.of eL2, atI_nat (j := 0) rfl, by show 3 ≤ sizeLine; decide, fun p3 h3 => ?_⟩
          have s3 : Same G2 (upd G2 p3 (.tup [.str "set", .str x, u1])) := snew h3
          have t3 : Dx K (upd G2 p3 (.tup [.str "set", .str x, u1])) (.ref p3) (.tuple [.str "set", .str x, y1]) := .tup (SqT.of upd_same) (.cons (.str _) (.cons (.str x) (.cons (dxSame (s1.trans (s2.trans s3)) _ _ hu15) .nil)))
          generalize upd G2 p3 (.tup [.str "set", .str x, u1]) = G3 at s3 t3 ⊢
          refine ⟨by show 2 ≤ sizeLine; decide, fun p4 h4 => ?_⟩
          have s4 : Same G3 (upd G3 p4 (.tup [.str "number", .int 1])) := snew h4
          have t4 : Dx K (upd G3 p4 (.tup [.str "number", .int 1])) (.ref p4) (.tuple [.str "number", .int 1]) := .tup (SqT.of upd_same) (.cons (.str _) (.cons (.int 1) .nil))
          generalize upd G3 p4 (.tup [.str "number", .int 1]) = G4 at s4 t4 ⊢
          refine ⟨by show 3 ≤ sizeLine; decide, fun p5 h5 => ?_⟩
          have s5 : Same G4 (upd G4 p5 (.tup [.str "then", .ref p3, .ref p4])) := snew h5
          have t5 : Dx K (upd G4 p5 (.tup [.str "then", .ref p3, .ref p4])) (.ref p5) (.tuple [.str "then", .tuple [.str "set", .str x, y1], .tuple [.str "number", .int 1]]) := .tup (SqT.of upd_same) (.cons (.str _) (.cons (dxSame (s4.trans s5) _ _ t3) (.cons (dxSame s5 _ _ t4) .nil)))
          generalize upd G4 p5 (.tup [.str "then", .ref p3, .ref p4]) = G5 at s5 t5 ⊢
          refine ⟨by show 3 ≤ sizeLine; decide, fun p6 h6 => ?_⟩
          have s6 : Same G5 (upd G5 p6 (.tup [.ref p1, .ref p2, .ref p5])) := snew h6
          have e6 : (upd G5 p6 (.tup [.ref p1, .ref p2, .ref p5])) p6 = some (.tup [.ref p1, .ref p2, .ref p5]) := upd_same
          generalize upd G5 p6 (.tup [.ref p1, .ref p2, .ref p5]) = G6 at s6 e6 ⊢
          have gs := gb_set hv mx g1
          obtain ⟨v1, z1, ev, hz1, gz1⟩ : ∃ v1 z1, atI [V.ref p1, V.ref p2, V.ref p5] ch = some v1 ∧ Dx K G6 v1 z1 ∧ GB vs ps (Wn n + 32) (1 + 3 * n + 2) z1 := by
            have : ch = 0 ∨ ch = 1 ∨ ch = 2 := by omega
            rcases this with rfl | rfl | rfl
            · exact ⟨.ref p1, _, atI_nat (j := 0) rfl, dxSame (s2.trans (s3.trans (s4.trans (s5.trans s6)))) _ _ t1, gs.mono (by omega) (by omega)⟩
            · exact ⟨.ref p2, _, atI_nat (j := 1) rfl, dxSame (s3.trans (s4.trans (s5.trans s6))) _ _ t2, (gb_show g1).mono (by omega) (by omega)⟩
            · exact ⟨.ref p5, _, atI_nat (j := 2) rfl, dxSame s6 _ _ t5, (gb_two (h := "then") (by decide +kernel) gs ((gb_number (i := 1) (by decide) (by decide)).mono (Nat.le_refl _) (by omega))).mono (by omega) (by omega)⟩
          have s56 := s1.trans (s2.trans (s3.trans (s4.trans (s5.trans s6))))
          have eL6 := s56 _ _ eL
          refine ⟨_, rfl, p6, _, ch, v1, rfl, rfl, SqT.of e6, ev, _, rfl, L, _, _, 0, rfl, rfl, eL6, rfl, ?_⟩
          have T7 : Tst G6 (upd G6 L (.lst ([u1, u2].set 0 v1))) := Tst.set eL6 trivial
          have e7 : (upd G6 L (.lst ([u1, u2].set 0 v1))) L = some (.lst [v1, u2]) := upd_same
          have hz17 := T7.dx (nl_ex gz1.ex) hz1
          have hu27 := T7.dx (nl_ex g2.ex) (dxSame s56 _ _ hu25)
          have S7 : Shop (upd G6 L (.lst ([u1, u2].set 0 v1))) d w' c sh va pa (t + 1 + 1 + 2 * Tn n) vs ps l2 o2 asks pins := ((S5.same s56).wr nL).mono (by omega)
          have f7 : Fr [d, w', sh] H (upd G6 L (.lst ([u1, u2].set 0 v1))) := (f5.trans (Fr.of s56)).own hLH
          generalize upd G6 L (.lst ([u1, u2].set 0 v1)) = G7 at e7 hz17 hu27 S7 f7 ⊢
          refine ⟨_, rfl, L, _, _, _, rfl, rfl, SqL.of e7, atI_nat (j := 0) rfl, ?_⟩
          refine (fun (rest2 : ∀ (p : Addr) (G8 : Hp), (∃ z2, Dx K G8 (.ref p) z2 ∧ GB vs ps (Wn n + 7) (1 + 3 * n + 2) z2 ∧ Dx K G8 v1 z1 ∧ Shop G8 d w' c sh va pa (t + 1 + 1 + 2 * Tn n) vs ps l2 o2 asks pins ∧ Fr [d, w', sh] H G8) → (?G6 : Addr → Hp → Prop) p G8) => ?first6) ?second6
          case first6 =>
            refine ⟨_, rfl, rfl, _, rfl, ite2 (fun an => ?_) (fun an => ?_)⟩
            · refine ⟨_, rfl, by show 2 ≤ sizeLine; decide, fun p hp' => ?_⟩
              have sp : Same G7 (upd G7 p (.tup [.str "name", .str x])) := snew hp'
              have up : Dx K (upd G7 p (.tup [.str "name", .str x])) (.ref p) (.tuple [.str "name", .str x]) := .tup (SqT.of upd_same) (.cons (.str _) (.cons (.str x) .nil))
              have Sp := S7.same sp
              have fp := f7.trans (Fr.of sp)
              have hp1 := dxSame sp _ _ hz17
              generalize upd G7 p (.tup [.str "name", .str x]) = G8 at up Sp fp hp1 ⊢
              exact rest2 p G8 ⟨_, up, (gb_name hv mx).mono (by omega) (by omega), hp1, Sp, fp⟩
            · refine ⟨_, rfl, L, _, _, _, rfl, rfl, SqL.of e7, atI_nat (j := 1) rfl, by show 2 ≤ sizeLine; decide, fun p hp' => ?_⟩
              have sp : Same G7 (upd G7 p (.tup [.str "show", u2])) := snew hp'
              have up : Dx K (upd G7 p (.tup [.str "show", u2])) (.ref p) (.tuple [.str "show", y2]) := .tup (SqT.of upd_same) (.cons (.str _) (.cons (dxSame sp _ _ hu27) .nil))
              have Sp := S7.same sp
              have fp := f7.trans (Fr.of sp)
              have hp1 := dxSame sp _ _ hz17
              generalize upd G7 p (.tup [.str "show", u2]) = G8 at up Sp fp hp1 ⊢
              exact rest2 p G8 ⟨_, up, (gb_show g2).mono (by omega) (by omega), hp1, Sp, fp⟩
          case second6 =>
          rintro p G8 ⟨z2, hz2, gz2, hz18, S8, f8⟩
          refine ⟨by show 2 ≤ sizeLine; decide, fun L2 hL2 => ?_⟩
          have sL2 : Same G8 (upd G8 L2 (.lst [v1, .ref p])) := snew hL2
          have eL2' : (upd G8 L2 (.lst [v1, .ref p])) L2 = some (.lst [v1, .ref p]) := upd_same
          have S9 := S8.same sL2
          have f9 := f8.trans (Fr.of sL2)
          have a1 := dxSame sL2 _ _ hz18
          have a2 := dxSame sL2 _ _ hz2
          have n2 := S8.dr.fresh hL2
          generalize upd G8 L2 (.lst [v1, .ref p]) = G9 at eL2' S9 f9 a1 a2 ⊢
          refine ⟨_, rfl, 1, rfl, by show 2 ≤ sizeLine; decide, fun l hl => ?_⟩
          have sl : Same G9 (upd G9 l (.lst [.int 1, .int (-1)])) := snew hl
          have nl' := S9.dr.fresh hl
          refine ⟨d, w', c, l, t + 1 + 1 + 2 * Tn n, _, rfl, S9.dr.same sl, by omega, SqL.of upd_same, nl'.1, nl'.2.1, by simp, by show 2 < 1073741824; decide, fun u Ha mu dra ba => ?_⟩
          have Sa := (S9.same sl).but ba dra
          have fa := f9.trans ((Fr.of sl).trans (ba.fr3 (sh := sh)))
          have Ta := (Tst.of sl).trans ((ba.fr3 (sh := sh)).tst (S9.same sl).mt)
          have b1' := Ta.dx (nl_ex gz1.ex) a1
          have b2' := Ta.dx (nl_ex gz2.ex) a2
          have eLa := ba _ _ (sl _ _ eL2') n2.1 n2.2.1
          obtain ⟨kk, hk, rfl⟩ : ∃ kk : Int, (kk = 1 ∨ kk = -1) ∧ u = .int kk := by
            simp only [List.mem_cons, List.not_mem_nil, or_false] at mu
            rcases mu with rfl | rfl
            · exact ⟨1, .inl rfl, rfl⟩
            · exact ⟨-1, .inr rfl, rfl⟩
          refine ⟨kk, rfl, L2, _, kk, rfl, rfl, hk, SqL.of eLa, fun M hM => ?_⟩
          have sM : ∀ o, Same Ha (upd Ha M o) := fun o => snew hM
          have nM := Sa.dr.fresh hM
          have big : ∀ h more, h ∈ Exq.opsN → (more = [] ∨ more = [.str "left"] ∨ more = [.str "right"]) → GB vs ps (Wn (n + 1)) (1 + 3 * (n + 1)) (.tuple ([.str h, z1, z2] ++ more)) ∧ GB vs ps (Wn (n + 1)) (1 + 3 * (n + 1)) (.tuple ([.str h, z2, z1] ++ more)) := fun h more mh hm => ⟨(gb_op mh hm gz1 gz2).mono (by omega) (by omega), (gb_op mh hm gz2 gz1).mono (by omega) (by omega)⟩
          have fin : ∃ (va' vb : V) (za zb : PyData), (if kk = 1 then [v1, V.ref p] else [v1, V.ref p].reverse) = [va', vb] ∧ Dx K Ha va' za ∧ Dx K Ha vb zb ∧ exD za = true ∧ exD zb = true ∧ (∀ h more, h ∈ Exq.opsN → (more = [] ∨ more = [.str "left"] ∨ more = [.str "right"]) → GB vs ps (Wn (n + 1)) (1 + 3 * (n + 1)) (.tuple ([.str h, za, zb] ++ more))) := by
            rcases hk with rfl | rfl
            · exact ⟨v1, .ref p, z1, z2, rfl, b1', b2', gz1.ex, gz2.ex, fun h more mh hm => (big h more mh hm).1⟩
            · exact ⟨.ref p, v1, z2, z1, rfl, b2', b1', gz2.ex, gz1.ex, fun h more mh hm => (big h more mh hm).2⟩
          obtain ⟨va', vb, za, zb, ee, da, db, xa, xb, bb⟩ := fin
          rw [ee]
          have eM : (upd Ha M (.lst [va', vb])) M = some (.lst [va', vb]) := upd_same
          have da' := dxSame (sM (.lst [va', vb])) _ _ da
          have db' := dxSame (sM (.lst [va', vb])) _ _ db
          have SM := Sa.same (sM (.lst [va', vb]))
          have fM := fa.trans (Fr.of (sM (.lst [va', vb])))
          generalize upd Ha M (.lst [va', vb]) = Hm at eM da' db' SM fM ⊢
          exact rest M Hm ⟨va', vb, za, zb, eM, da', db', xa, xb, bb, nM.1, nM.2.1, SM, fM⟩
        · exact rest L H5 ⟨u1, u2, y1, y2, eL, hu15, hu25, g1.ex, g2.ex, fun h more mh hm => (gb_op mh hm g1 g2).mono (by omega) (by omega), nL.1, nL.2.1, S5.mono (by omega), f5⟩
      case second5 =>
      rintro M H6 ⟨v1, v2, z1, z2, eM, hz1, hz2, xz1, xz2, big, nM1, nM2, S6, f6⟩
      clear S5 f5 eL hu15 hu25
      refine ⟨_, rfl, rfl, fun l1' G1 hl1 s1 el1 => ?_⟩
      have S7 := S6.same s1
      have f7 := f6.trans (Fr.of s1)
      have nl1 := S6.dr.fresh hl1
      unfold tNoPart
      refine ⟨_, rfl, by show 4 ≤ sizeLine; decide, fun l hl => ?_⟩
      have sl : Same G1 (upd G1 l (.lst [.int 5, .int 5, .int 5, .int 6])) := snew hl
      have nl' := S7.dr.fresh hl
      refine ⟨d, w', c, l, t + 1 + 1 + 2 * Tn n + 1, _, rfl, S7.dr.same sl, by omega, SqL.of upd_same, nl'.1, nl'.2.1, by simp, by show 4 < 1073741824; decide, fun u Ha mu dra ba => ?_⟩
      have Sa := (S7.same sl).but ba dra
      have fa := f7.trans ((Fr.of sl).trans (ba.fr3 (sh := sh)))
      have Ta := (Tst.of (s1.trans sl)).trans ((ba.fr3 (sh := sh)).tst (S7.same sl).mt)
      have ela := ba _ _ (sl _ _ el1) nl1.1 nl1.2.1
      have eMa := ba _ _ (sl _ _ (s1 _ _ eM)) nM1 nM2
      obtain ⟨kk, hk, rfl⟩ : ∃ kk : Int, (kk = 5 ∨ kk = 6) ∧ u = .int kk := by
        simp only [List.mem_cons, List.not_mem_nil, or_false] at mu
        rcases mu with rfl | rfl | rfl | rfl
        · exact ⟨5, .inl rfl, rfl⟩
        · exact ⟨5, .inl rfl, rfl⟩
        · exact ⟨5, .inl rfl, rfl⟩
        · exact ⟨6, .inr rfl, rfl⟩
      obtain ⟨ts, ets, nts, sts, lts⟩ : ∃ ts : List Str, cutV (Exq.opsN.map V.str) none (some kk) = ts.map V.str ∧ ts ≠ [] ∧ (∀ z ∈ ts, z ∈ Exq.opsN) ∧ ts.length ≤ 6 := by
        rcases hk with rfl | rfl
        · exact ⟨Exq.opsN.take 5, by decide +kernel, by decide +kernel, fun z hz => List.mem_of_mem_take hz, by decide +kernel⟩
        · exact ⟨Exq.opsN.take 6, by decide +kernel, by decide +kernel, fun z hz => List.mem_of_mem_take hz, by decide +kernel⟩
      refine ⟨kk, rfl, l1', _, rfl, SqL.of ela, fun q hq => ?_⟩
      rw [ets]
      have sq : Same Ha (upd Ha q (.lst (ts.map V.str))) := snew hq
      have nq := Sa.dr.fresh hq
      refine ⟨d, w', c, q, t + 1 + 1 + 2 * Tn n + 1 + 1, _, rfl, Sa.dr.same sq, by omega, SqL.of upd_same, nq.1, nq.2.1, by simpa using nts, by rw [List.length_map]; omega, fun u Hb mub drb bb => ?_⟩
      obtain ⟨h, mh', rfl⟩ := str_mem mub
      have mh := sts h mh'
      have Sb := (Sa.same sq).but bb drb
      have fb := fa.trans ((Fr.of sq).trans (bb.fr3 (sh := sh)))
      have Tb := Ta.trans ((Tst.of sq).trans ((bb.fr3 (sh := sh)).tst (Sa.same sq).mt))
      have eMb := bb _ _ (sq _ _ eMa) nM1 nM2
      have hz1b := Tb.dx (nl_ex xz1) hz1
      have hz2b := Tb.dx (nl_ex xz2) hz2
      refine ⟨_, rfl, M, _, _, _, rfl, rfl, SqL.of eMb, atI_nat (j := 0) rfl, _, rfl, M, _, _, _, rfl, rfl, SqL.of eMb, atI_nat (j := 1) rfl, ?_⟩
      refine ⟨by show 3 ≤ sizeLine; decide, fun p hp' => ?_⟩
      have sp : Same Hb (upd Hb p (.tup [.str h, v1, v2])) := snew hp'
      have tp : TupD K (upd Hb p (.tup [.str h, v1, v2])) p [.str h, v1, v2] [.str h, z1, z2] := ⟨SqT.of upd_same, .cons (.str h) (.cons (dxSame sp _ _ hz1b) (.cons (dxSame sp _ _ hz2b) .nil))⟩
      have nlp : nl (.tuple [.str h, z1, z2]) = true := nl_tup' fun z hz => by
        simp only [List.mem_cons, List.not_mem_nil, or_false] at hz
        rcases hz with rfl | rfl | rfl
        · rfl
        · exact nl_ex xz1
        · exact nl_ex xz2
      have S8 := Sb.same sp
      have f8 := fb.trans (Fr.of sp)
      generalize upd Hb p (.tup [.str h, v1, v2]) = H8 at tp S8 f8 ⊢
      clear S6 S7 Sa Sb f6 f7 fa fb Ta Tb eM eMa eMb ela el1 hz1 hz2 hz1b hz2b mub mu
      refine ⟨_, rfl, ?_⟩
      refine (fun (rest : ∀ (q : Addr) (H9 : Hp), (∃ (zs : List V) (more : List PyData), (more = [] ∨ more = [.str "left"] ∨ more = [.str "right"]) ∧ TupD K H9 q zs more ∧ Shop H9 d w' c sh va pa (t + 1 + 1 + 2 * Tn n + 5) vs ps l2 o2 asks pins ∧ Fr [d, w', sh] H H9 ∧ Tst H8 H9) → (?G7 : Addr → Hp → Prop) q H9) => ?first7) ?second7
      case first7 =>
        refine ⟨_, rfl, sh, _, rfl, S8.gPins, _, rfl, ite2 (fun ap => ?_) (fun ap => ?_)⟩
        · refine ⟨_, rfl, d, w', c, t + 1 + 1 + 2 * Tn n + 1 + 1 + 1, 4, rfl, S8.dr, by omega, by decide, by decide, fun j H9 j0 j4 dr9 b9 => ⟨rfl, _, rfl, ite2 (fun aj => ?_) (fun aj => ?_)⟩⟩
          · have S9 := S8.but b9 dr9
            have f9 := f8.trans (b9.fr3 (sh := sh))
            have T9 := (b9.fr3 (sh := sh)).tst S8.mt
            refine ⟨_, rfl, by show 2 ≤ sizeLine; decide, fun l hl => ?_⟩
            have sl : Same H9 (upd H9 l (.lst [.str "left", .str "right"])) := snew hl
            have nl' := S9.dr.fresh hl
            refine ⟨d, w', c, l, t + 1 + 1 + 2 * Tn n + 1 + 1 + 1 + 1, _, rfl, S9.dr.same sl, by omega, SqL.of upd_same, nl'.1, nl'.2.1, by simp, by show 2 < 1073741824; decide, fun u Ha mu dra ba => ?_⟩
            have Sa := (S9.same sl).but ba dra
            have fa := f9.trans ((Fr.of sl).trans (ba.fr3 (sh := sh)))
            have Ta := T9.trans ((Tst.of sl).trans ((ba.fr3 (sh := sh)).tst (S9.same sl).mt))
            refine ⟨by show 1 ≤ sizeLine; decide, fun q hq => ?_⟩
            have sq : Same Ha (upd Ha q (.tup [u])) := snew hq
            obtain ⟨z, hz, ez⟩ : ∃ z : Str, u = .str z ∧ ([PyData.str z] = [.str "left"] ∨ [PyData.str z] = [.str "right"]) := by
              simp only [List.mem_cons, List.not_mem_nil, or_false] at mu
              rcases mu with rfl | rfl
              · exact ⟨_, rfl, .inl rfl⟩
              · exact ⟨_, rfl, .inr rfl⟩
            subst hz
            have tq : TupD K (upd Ha q (.tup [.str z])) q [.str z] [.str z] := ⟨SqT.of upd_same, .cons (.str z) .nil⟩
            have Sq := Sa.same sq
            have fq := fa.trans (Fr.of sq)
            have Tq := Ta.trans (Tst.of sq)
            generalize upd Ha q (.tup [.str z]) = Hq at tq Sq fq Tq ⊢
            exact rest q Hq ⟨_, _, .inr ez, tq, Sq.mono (by omega), fq, Tq⟩
          · have S9 := S8.but b9 dr9
            have f9 := f8.trans (b9.fr3 (sh := sh))
            have T9 := (b9.fr3 (sh := sh)).tst S8.mt
            refine ⟨by show 0 ≤ sizeLine; exact Nat.zero_le _, fun q hq => ?_⟩
            have sq : Same H9 (upd H9 q (.tup [])) := snew hq
            have tq : TupD K (upd H9 q (.tup [])) q [] [] := ⟨SqT.of upd_same, .nil⟩
            have Sq := S9.same sq
            have fq := f9.trans (Fr.of sq)
            have Tq := T9.trans (Tst.of sq)
            generalize upd H9 q (.tup []) = Hq at tq Sq fq Tq ⊢
            exact rest q Hq ⟨_, _, .inl rfl, tq, Sq.mono (by omega), fq, Tq⟩
        · refine ⟨by show 0 ≤ sizeLine; exact Nat.zero_le _, fun q hq => ?_⟩
          have sq : Same H8 (upd H8 q (.tup [])) := snew hq
          have tq : TupD K (upd H8 q (.tup [])) q [] [] := ⟨SqT.of upd_same, .nil⟩
          have Sq := S8.same sq
          have fq := f8.trans (Fr.of sq)
          have Tq := Tst.of sq
          generalize upd H8 q (.tup []) = Hq at tq Sq fq Tq ⊢
          exact rest q Hq ⟨_, _, .inl rfl, tq, Sq.mono (by omega), fq, Tq⟩
      case second7 =>
      rintro q H9 ⟨zs, more, hm, tq, S9, f9, T9⟩
      refine cat_d (T9.tupD nlp tp) tq (by rcases hm with rfl | rfl | rfl <;> simp) fun p2 zz Hz sz tz => ?_
      exact k (.ref p2) _ l2 o2 Hz ((S9.same sz).mono (by omega)) (f9.trans (Fr.of sz)) tz.dx (big h more mh hm)
    refine ⟨_, rfl, _, _, rfl, rfl, _, rfl, ite2 (fun a8 => ?_) (fun a8 => ?_)⟩
    · refine ⟨_, rfl, _, rfl, _, rfl, _, rfl, _, _, rfl, rfl, d, w', c, sh, va, pa, t + 1 + 1, vs, ps, left - 1, loops, asks, pins, ea, S2, by omega, ne, lvs, hv, lps, hp, by omega, fun u1 e1' l1 o1 H3 S3 f3 hu1 g1 => ?_⟩
      refine ⟨by show 3 ≤ sizeLine; decide, fun p hp' => ?_⟩
      have sp : Same H3 (upd H3 p (.tup [.str "set", .str x, u1])) := snew hp'
      refine k (.ref p) _ l1 o1 _ ((S3.same sp).mono (by omega)) (f2.trans (f3.trans (Fr.of sp))) ?_ ((gb_set hv mx g1).mono (by omega) (by omega))
      exact .tup (SqT.of upd_same) (.cons (.str _) (.cons (.str x) (.cons (dxSame sp _ _ hu1) .nil)))
    refine ⟨_, rfl, _, _, rfl, rfl, _, rfl, ite2 (fun a10 => ?_) (fun a10 => ?_)⟩
    · refine ⟨_, rfl, _, rfl, _, rfl, _, _, rfl, rfl, d, w', c, sh, va, pa, t + 1 + 1, vs, ps, left - 1, loops, asks, pins, ea, S2, by omega, ne, lvs, hv, lps, hp, by omega, fun u1 e1' l1 o1 H3 S3 f3 hu1 g1 => ?_⟩
      refine ⟨by show 2 ≤ sizeLine; decide, fun p hp' => ?_⟩
      have sp : Same H3 (upd H3 p (.tup [.str "show", u1])) := snew hp'
      refine k (.ref p) _ l1 o1 _ ((S3.same sp).mono (by omega)) (f2.trans (f3.trans (Fr.of sp))) ?_ ((gb_show g1).mono (by omega) (by omega))
      exact .tup (SqT.of upd_same) (.cons (.str _) (.cons (dxSame sp _ _ hu1) .nil))
    refine ⟨_, rfl, rfl, _, rfl, ite2 (fun aif => ?_) (fun aif => ?_)⟩
    · refine ⟨by show 1 ≤ sizeLine; decide, fun q hq => ?_⟩
      have sq : Same H2 (upd H2 q (.tup [.str "if"])) := snew hq
      have tq : TupD K (upd H2 q (.tup [.str "if"])) q [.str "if"] [.str "if"] := ⟨SqT.of upd_same, .cons (.str _) .nil⟩
      have S3 := S2.same sq
      have f3 := f2.trans (Fr.of sq)
      generalize upd H2 q (.tup [.str "if"]) = H3 at tq S3 f3 ⊢
      refine ⟨3, rfl, by decide, by decide, fun Dn hDn => ?_⟩
      have nD := S3.fresh hDn
      have hDH : H Dn = none := f3.free hDn (by simp only [List.mem_cons, List.not_mem_nil, or_false, not_or]; exact ⟨nD.1, nD.2.1, nD.2.2.2.1⟩)
      have tb : ∀ j < 3, tjf n j ≤ 2 * Tn n ∧ 0 ≤ tjf n j := fun j hj => by
        match j, hj with
        | 0, _ => exact ⟨by show (0 : Int) ≤ _; omega, Int.le_refl _⟩
        | 1, _ => exact ⟨by show 0 + Tn n ≤ _; omega, by show (0 : Int) ≤ 0 + Tn n; omega⟩
        | 2, _ => exact ⟨by show 0 + Tn n + Tn n ≤ _; omega, by show (0 : Int) ≤ 0 + Tn n + Tn n; omega⟩
      have sD : Same H3 (upd H3 Dn (.lst [])) := snew hDn
      refine lc_it (walk_range (lo := 0) (n := 3)) (fun j Hd => ∃ (us : List V) (es : List PyData) (l o : Int), Hd Dn = some (.lst us) ∧ DxAll K Hd us es ∧ es.length = j ∧ (∀ e ∈ es, GB vs ps (Wn n) (1 + 3 * n) e) ∧ Shop Hd d w' c sh va pa (t + 1 + 1 + tjf n j) vs ps l o asks pins ∧ Fr [d, w', sh] H Hd ∧ Tst H3 Hd)
        ⟨[], [], left - 1, loops, upd_same, .nil, rfl, (fun _ h => nomatch h), (S3.same sD).mono (by show _ ≤ t + 1 + 1 + 0; omega), f3.trans (Fr.of sD), Tst.of sD⟩ (fun _ _ _ _ => trivial) ?_ ?_
      · rintro j y Hd Hd' hj ⟨us, es, l, o, zD, dE, le, gE, Sd, fd, Td⟩ ⟨rfl, rfl⟩
        obtain ⟨b1, b2⟩ := tb j hj
        have tn1 : tjf n (j + 1) = tjf n j + Tn n := rfl
        have lu := DxAll.len dE
        refine ⟨rfl, yes_if ⟨_, rfl, _, rfl, _, rfl, _, _, rfl, rfl, d, w', c, sh, va, pa, t + 1 + 1 + tjf n j, vs, ps, l, o, asks, pins, ea, Sd, by omega, ne, lvs, hv, lps, hp, by omega, fun u e l' o' H4 S4 f4 hu g4 => ?_⟩⟩
        have z4 : H4 Dn = some (.lst us) := f4.at zD (by simp only [List.mem_cons, List.not_mem_nil, or_false, not_or]; exact ⟨nD.1, nD.2.1, nD.2.2.2.1⟩)
        have T4 := f4.tst Sd.mt
        have T5 : Tst H4 (upd H4 Dn (.lst (us ++ [u]))) := Tst.set z4 trivial
        have nlE : nlA es = true := by
          rw [nlA_all, List.all_eq_true]
          exact fun e he => nl_ex (gE e he).ex
        refine ⟨us, z4, by rw [lu, le, sizeLine_eq]; omega, us ++ [u], es ++ [e], l', o', upd_same, DxAll.app ((T4.trans T5).dxA nlE dE) (.cons (T5.dx (nl_ex g4.ex) hu) .nil), by rw [List.length_append, le]; rfl, ?_, (S4.wr nD).mono (by omega), (fd.trans f4).own hDH, Td.trans (T4.trans T5)⟩
        intro z hz
        rcases List.mem_append.mp hz with hz | hz
        · exact gE z hz
        · rw [List.mem_singleton.mp hz]
          exact g4
      · rintro Hd ⟨us, es, l, o, zD, dE, le, gE, Sd, fd, Td⟩
        have t3 : tjf n 3 = 0 + Tn n + Tn n + Tn n := rfl
        refine ⟨Dn, us, rfl, .inl ⟨SqL.of zD, fun p hp' => ?_⟩⟩
        have sp : Same Hd (upd Hd p (.tup us)) := snew hp'
        have tp : TupD K (upd Hd p (.tup us)) p us es := ⟨SqT.of upd_same, dxSameA sp _ _ dE⟩
        have tq' : TupD K (upd Hd p (.tup us)) q [.str "if"] [.str "if"] := (Td.trans (Tst.of sp)).tupD (by decide +kernel) tq
        have Sp := Sd.same sp
        have fp := fd.trans (Fr.of sp)
        generalize upd Hd p (.tup us) = He at tp tq' Sp fp ⊢
        refine cat_d tq' tp (by rw [le]; simp) fun p2 zz Hz sz tz => ?_
        obtain ⟨ea1, eb1, ec1, rfl⟩ := len3 le
        refine k (.ref p2) _ l o Hz ((Sp.same sz).mono (by omega)) (fp.trans (Fr.of sz)) tz.dx ((gb_if (gE ea1 (by simp)) (gE eb1 (by simp)) (gE ec1 (by simp))).mono (by omega) (by omega))
    refine (fun (rest : ∀ H3, Same H2 H3 → (?G : Hp → Prop) H3) => ?first) ?second
    case first =>
      refine ⟨_, rfl, rfl, _, rfl, ite2 (fun ac => ?_) (fun ac => ?_)⟩
      · refine ⟨_, rfl, sh, _, rfl, S2.gParts, by show 0 ≤ sizeLine; exact Nat.zero_le _, fun q hq => ?_⟩
        have sq : Same H2 (upd H2 q (.lst [])) := snew hq
        have eq : (upd H2 q (.lst [])) q = some (.lst []) := upd_same
        generalize upd H2 q (.lst []) = G1 at sq eq ⊢
        have S3 := S2.same sq
        refine ⟨.list (ps.map PyData.str), .list [], .lst (SqL.of S3.pa_) (dp_strs ps), .lst (SqL.of eq) .nil, shaped_strs fun u hu => ascS_asc (hp u hu).2.1, shaped_strs (xs := []) (fun _ h => nomatch h), _, rfl, ?_⟩
        rw [eqv_empty, List.isEmpty_map]
        cases hps : ps.isEmpty with
        | true =>
          refine iteF ?_
          exact rest G1 sq
        | false =>
          have pne : ps ≠ [] := fun e => by
            rw [e] at hps
            cases hps
          refine iteT ⟨_, rfl, _, rfl, sh, _, rfl, S3.gParts, d, w', c, pa, t + 1 + 1, _, rfl, S3.dr, by omega, SqL.of S3.pa_, S3.ne.2.2.2.2.1, S3.n3, by simpa using pne, by rw [List.length_map]; omega, fun u H4 mu4 dr4 b4 => ?_⟩
          obtain ⟨y, my, rfl⟩ := str_mem mu4
          have S4 := S3.but b4 dr4
          refine ⟨by show 2 ≤ sizeLine; decide, fun p hp' => ?_⟩
          have sp : Same H4 (upd H4 p (.tup [.str "call", .str y])) := snew hp'
          refine k (.ref p) _ (left - 1) loops _ ((S4.same sp).mono (by omega)) (f2.trans ((Fr.of sq).trans ((b4.fr3 (sh := sh)).trans (Fr.of sp)))) ?_ ((gb_call hp my).mono (by omega) (by omega))
          exact .tup (SqT.of upd_same) (.cons (.str _) (.cons (.str y) .nil))
      · exact rest H2 rsame
    case second =>
    intro H3 s3
    have S3 := S2.same s3
    have f3 := f2.trans (Fr.of (S := [d, w', sh]) s3)
    clear s3 S2 f2
    generalize hleft : left - 1 = left1 at *
    refine (fun (rest : ∀ H4, H4 = H3 → (?G2 : Hp → Prop) H4) => ?first2) ?second2
    case first2 =>
      refine ⟨_, rfl, rfl, _, rfl, ite2 (fun ac => ?_) (fun ac => ?_)⟩
      · refine ⟨_, rfl, sh, _, rfl, S3.gLoops, _, _, rfl, rfl, _, rfl, ite2 (fun al => ?_) (fun al => ?_)⟩
        · refine ⟨_, rfl, _, rfl, _, rfl, _, rfl, d, w', c, sh, va, pa, t + 1 + 1, vs, ps, left1, loops, asks, pins, x, rfl, mx, S3, by omega, ne, lvs, hv, lps, hp, by omega, fun u e l' o' H' S' f' hu g => ?_⟩
          exact k u e l' o' H' (S'.mono (by omega)) (f3.trans f') hu g
        · exact rest H3 rfl
      · exact rest H3 rfl
    case second2 =>
    intro H4 e4
    rw [e4]
    clear e4 H4
    refine (fun (rest : ∀ H4, H4 = H3 → (?G3 : Hp → Prop) H4) => ?first3) ?second3
    case first3 =>
      refine ⟨_, rfl, rfl, _, rfl, ite2 (fun ac => ?_) (fun ac => ?_)⟩
      · refine ⟨_, rfl, sh, _, rfl, S3.gLoops, _, _, rfl, rfl, _, rfl, ite2 (fun al => ?_) (fun al => ?_)⟩
        · refine ⟨_, rfl, sh, _, rfl, S3.gLoops, _, _, rfl, rfl, _, rfl, sh, _, rfl, S3.putLoops (loops - 1), ?_⟩
          have S4 := S3.set left1 (loops - 1)
          have f4 : Fr [d, w', sh] H (upd H3 sh (.dK (skv va pa left1 (loops - 1) asks pins))) := f3.trans (Fr.set (by simp))
          generalize upd H3 sh (.dK (skv va pa left1 (loops - 1) asks pins)) = H4 at S4 f4 ⊢
          refine ⟨_, rfl, d, w', c, t + 1 + 1, 3, rfl, S4.dr, by omega, by decide, by decide, fun lo H5 lo0 lo3 dr5 b5 => ?_⟩
          have S5 := S4.but b5 dr5
          have f5 := f4.trans (b5.fr3 (sh := sh))
          refine ⟨_, rfl, _, rfl, _, rfl, _, rfl, d, w', c, t + 1 + 1 + 1, 3, rfl, S5.dr, by omega, by decide, by decide, fun hi H6 hi0 hi3 dr6 b6 => ⟨_, _, rfl, rfl, ?_⟩⟩
          have S6 := S5.but b6 dr6
          have f6 := f5.trans (b6.fr3 (sh := sh))
          refine ⟨_, rfl, _, rfl, _, rfl, _, _, rfl, rfl, d, w', c, sh, va, pa, t + 1 + 1 + 1 + 1, vs, ps, left1, loops - 1, asks, pins, ea, S6, by omega, ne, lvs, hv, lps, hp, by omega, fun u1 e1' l1 o1 H7 S7 f7 hu1 g1 => ?_⟩
          have f07 := f6.trans f7
          refine ⟨by show 5 ≤ sizeLine; decide, fun p hp' => ?_⟩
          have sp : Same H7 (upd H7 p (.tup [.str "each", .str x, .int lo, .int (lo + hi), u1])) := snew hp'
          have tp : TupD K (upd H7 p (.tup [.str "each", .str x, .int lo, .int (lo + hi), u1])) p [.str "each", .str x, .int lo, .int (lo + hi), u1] [.str "each", .str x, .int lo, .int (lo + hi), e1'] := ⟨SqT.of upd_same, .cons (.str _) (.cons (.str x) (.cons (.int lo) (.cons (.int (lo + hi)) (.cons (dxSame sp _ _ hu1) .nil))))⟩
          have nlp : nl (.tuple [.str "each", .str x, .int lo, .int (lo + hi), e1']) = true := nl_tup' fun z hz => by
            simp only [List.mem_cons, List.not_mem_nil, or_false] at hz
            rcases hz with rfl | rfl | rfl | rfl | rfl
            · rfl
            · rfl
            · rfl
            · rfl
            · exact nl_ex g1.ex
          have S8 := S7.same sp
          have f8 := f07.trans (Fr.of sp)
          generalize upd H7 p (.tup [.str "each", .str x, .int lo, .int (lo + hi), u1]) = H8 at tp S8 f8 ⊢
          refine ⟨_, rfl, ?_⟩
          refine (fun (rest : ∀ (q : Addr) (H9 : Hp), (∃ (zs : List V) (more : List PyData), (more = [] ∨ more = [.str "up"] ∨ more = [.str "down"]) ∧ TupD K H9 q zs more ∧ Shop H9 d w' c sh va pa (t + 1 + 1 + 1 + 1 + Tn n + 2) vs ps l1 o1 asks pins ∧ Fr [d, w', sh] H H9 ∧ Tst H8 H9) → (?G4 : Addr → Hp → Prop) q H9) => ?first4) ?second4
          case first4 =>
            refine ⟨_, rfl, sh, _, rfl, S8.gPins, _, rfl, ite2 (fun ap => ?_) (fun ap => ?_)⟩
            · refine ⟨_, rfl, d, w', c, t + 1 + 1 + 1 + 1 + Tn n, 4, rfl, S8.dr, by omega, by decide, by decide, fun j H9 j0 j4 dr9 b9 => ⟨rfl, _, rfl, ite2 (fun aj => ?_) (fun aj => ?_)⟩⟩
              · have S9 := S8.but b9 dr9
                have f9 := f8.trans (b9.fr3 (sh := sh))
                have T9 := (b9.fr3 (sh := sh)).tst S8.mt
                refine ⟨_, rfl, by show 2 ≤ sizeLine; decide, fun l hl => ?_⟩
                have sl : Same H9 (upd H9 l (.lst [.str "up", .str "down"])) := snew hl
                have nl' := S9.dr.fresh hl
                refine ⟨d, w', c, l, t + 1 + 1 + 1 + 1 + Tn n + 1, _, rfl, S9.dr.same sl, by omega, SqL.of upd_same, nl'.1, nl'.2.1, by simp, by show 2 < 1073741824; decide, fun u Ha mu dra ba => ?_⟩
                have Sa := (S9.same sl).but ba dra
                have fa := f9.trans ((Fr.of sl).trans (ba.fr3 (sh := sh)))
                have Ta := T9.trans ((Tst.of sl).trans ((ba.fr3 (sh := sh)).tst (S9.same sl).mt))
                refine ⟨by show 1 ≤ sizeLine; decide, fun q hq => ?_⟩
                have sq : Same Ha (upd Ha q (.tup [u])) := snew hq
                obtain ⟨z, hz, ez⟩ : ∃ z : Str, u = .str z ∧ ([PyData.str z] = [.str "up"] ∨ [PyData.str z] = [.str "down"]) := by
                  simp only [List.mem_cons, List.not_mem_nil, or_false] at mu
                  rcases mu with rfl | rfl
                  · exact ⟨_, rfl, .inl rfl⟩
                  · exact ⟨_, rfl, .inr rfl⟩
                subst hz
                have tq : TupD K (upd Ha q (.tup [.str z])) q [.str z] [.str z] := ⟨SqT.of upd_same, .cons (.str z) .nil⟩
                have Sq := Sa.same sq
                have fq := fa.trans (Fr.of sq)
                have Tq := Ta.trans (Tst.of sq)
                generalize upd Ha q (.tup [.str z]) = Hq at tq Sq fq Tq ⊢
                exact rest q Hq ⟨_, _, .inr ez, tq, Sq.mono (by omega), fq, Tq⟩
              · have S9 := S8.but b9 dr9
                have f9 := f8.trans (b9.fr3 (sh := sh))
                have T9 := (b9.fr3 (sh := sh)).tst S8.mt
                refine ⟨by show 0 ≤ sizeLine; exact Nat.zero_le _, fun q hq => ?_⟩
                have sq : Same H9 (upd H9 q (.tup [])) := snew hq
                have tq : TupD K (upd H9 q (.tup [])) q [] [] := ⟨SqT.of upd_same, .nil⟩
                have Sq := S9.same sq
                have fq := f9.trans (Fr.of sq)
                have Tq := T9.trans (Tst.of sq)
                generalize upd H9 q (.tup []) = Hq at tq Sq fq Tq ⊢
                exact rest q Hq ⟨_, _, .inl rfl, tq, Sq.mono (by omega), fq, Tq⟩
            · refine ⟨by show 0 ≤ sizeLine; exact Nat.zero_le _, fun q hq => ?_⟩
              have sq : Same H8 (upd H8 q (.tup [])) := snew hq
              have tq : TupD K (upd H8 q (.tup [])) q [] [] := ⟨SqT.of upd_same, .nil⟩
              have Sq := S8.same sq
              have fq := f8.trans (Fr.of sq)
              have Tq := Tst.of sq
              generalize upd H8 q (.tup []) = Hq at tq Sq fq Tq ⊢
              exact rest q Hq ⟨_, _, .inl rfl, tq, Sq.mono (by omega), fq, Tq⟩
          case second4 =>
          rintro q H9 ⟨zs, more, hm, tq, S9, f9, T9⟩
          refine cat_d (T9.tupD nlp tp) tq (by rcases hm with rfl | rfl | rfl <;> simp) fun p2 zz Hz sz tz => ?_
          exact k (.ref p2) _ l1 o1 Hz ((S9.same sz).mono (by omega)) (f9.trans (Fr.of sz)) tz.dx ((gb_each hv mx lo0 (by omega) (by omega) hm g1).mono (by omega) (by omega))
        · exact rest H3 rfl
      · exact rest H3 rfl
    case second3 =>
    intro H4 e4
    rw [e4]
    clear e4 H4
    refine ⟨_, rfl, _, _, rfl, rfl, _, rfl, ite2 (fun a15 => ?_) (fun a15 => ?_)⟩
    · refine ⟨_, rfl, _, rfl, _, rfl, _, _, rfl, rfl, d, w', c, sh, va, pa, t + 1 + 1, vs, ps, left1, loops, asks, pins, ea, S3, by omega, ne, lvs, hv, lps, hp, by omega, fun u1 e1' l1 o1 H4 S4 f4 hu1 g1 => ?_⟩
      refine ⟨_, rfl, _, rfl, _, rfl, _, _, rfl, rfl, d, w', c, sh, va, pa, t + 1 + 1 + Tn n, vs, ps, l1, o1, asks, pins, ea, S4, by omega, ne, lvs, hv, lps, hp, by omega, fun u2 e2' l2 o2 H5 S5 f5 hu2 g2 => ?_⟩
      have hu15 := (f5.tst S4.mt).dx (nl_ex g1.ex) hu1
      refine ⟨by show 3 ≤ sizeLine; decide, fun p hp' => ?_⟩
      have sp : Same H5 (upd H5 p (.tup [.str "then", u1, u2])) := snew hp'
      refine k (.ref p) _ l2 o2 _ ((S5.same sp).mono (by omega)) (f3.trans (f4.trans (f5.trans (Fr.of sp)))) ?_ ((gb_two (h := "then") (by decide +kernel) g1 g2).mono (by omega) (by omega))
      exact .tup (SqT.of upd_same) (.cons (.str _) (.cons (dxSame sp _ _ hu15) (.cons (dxSame sp _ _ hu2) .nil)))
    · exact ⟨_, rfl, _, rfl, leafS S3 f3 (by omega)⟩
end
end Any
set_option Elab.async false
set_option linter.all false
set_option maxRecDepth 100000
set_option maxHeartbeats 8000000
/-! A drawn program. -/
namespace Any
open PySem PySem.Spec PyProof.Rows L2 RT
open He (ga ma)
theorem sk_merge {va pa : Addr} {left loops : Int} {asks pins : Bool} : mergeK [] (skv va pa left loops asks pins) = skv va pa left loops asks pins := by
  have a1 : ("names" : Str) ≠ "parts" := by decide +kernel
  have a2 : ("names" : Str) ≠ "left" := by decide +kernel
  have a3 : ("names" : Str) ≠ "loops" := by decide +kernel
  have a4 : ("names" : Str) ≠ "asks" := by decide +kernel
  have a5 : ("names" : Str) ≠ "pins" := by decide +kernel
  have b2 : ("parts" : Str) ≠ "left" := by decide +kernel
  have b3 : ("parts" : Str) ≠ "loops" := by decide +kernel
  have b4 : ("parts" : Str) ≠ "asks" := by decide +kernel
  have b5 : ("parts" : Str) ≠ "pins" := by decide +kernel
  have c3 : ("left" : Str) ≠ "loops" := by decide +kernel
  have c4 : ("left" : Str) ≠ "asks" := by decide +kernel
  have c5 : ("left" : Str) ≠ "pins" := by decide +kernel
  have d4 : ("loops" : Str) ≠ "asks" := by decide +kernel
  have d5 : ("loops" : Str) ≠ "pins" := by decide +kernel
  have e5 : ("asks" : Str) ≠ "pins" := by decide +kernel
  unfold mergeK skv putK
  simp [a1, a2, a3, a4, a5, b2, b3, b4, b5, c3, c4, c5, d4, d5, e5]
theorem Shop.putParts {H : Hp} {d w c sh va pa pa' : Addr} {t : Int} {vs ps : List Str} {left loops : Int} {asks pins : Bool} (S : Shop H d w c sh va pa t vs ps left loops asks pins) : DPut H sh (V.str ("parts" : Str)) (.ref pa') (upd H sh (.dK (skv va pa' left loops asks pins))) := by
  have : putK (skv va pa left loops asks pins) (Sum.inr ("parts" : Str)) (.ref pa') = skv va pa' left loops asks pins := by
    have a1 : ("names" : Str) ≠ "parts" := by decide +kernel
    have a2 : ("left" : Str) ≠ "parts" := by decide +kernel
    have a3 : ("loops" : Str) ≠ "parts" := by decide +kernel
    have a4 : ("asks" : Str) ≠ "parts" := by decide +kernel
    have a5 : ("pins" : Str) ≠ "parts" := by decide +kernel
    unfold putK skv
    simp [a1, a2, a3, a4, a5]
  rw [← this]
  exact DPut.k (k := Sum.inr ("parts" : Str)) S.at_ (by show 6 < sizeLine; decide)
theorem len6 {α : Type} {r : List α} (h : r.length = 6) : ∃ a b c d e f, r = [a, b, c, d, e, f] := by
  match r, h with
  | [a, b, c, d, e, f], _ => exact ⟨a, b, c, d, e, f, rfl⟩
/-- a drawn program, as data -/
structure PGood (dta : PyData) : Prop where
  prog : progD dta = true
  asc : asc dta = true
  wt : wt dta ≤ 3000
  dep : dta.depth ≤ 20
theorem headsD_snoc (ps : List PyData) (n : Str) (e : PyData) : headsD (ps ++ [.tuple [.str n, e]]) = headsD ps ++ [n] := by
  unfold headsD
  rw [List.filterMap_append]
  rfl
theorem strsD_map (vs : List Str) : strsD (vs.map PyData.str) = vs := by
  unfold strsD
  induction vs with
  | nil => rfl
  | cons v vs ih =>
    rw [List.map_cons, List.filterMap_cons]
    show v :: _ = v :: vs
    rw [ih]
/-- the parts so far -/
structure Pds (vs ps : List Str) (pds : List PyData) (i : Nat) : Prop where
  nl : nlA pds = true
  go : ∀ r, progL vs ps r = progL vs [] (pds ++ r)
  asc : ∀ p ∈ pds, Any.asc p = true
  wt : wtA pds ≤ i * 400
  dep : PyData.depthAll pds ≤ 9
  heads : headsD pds = ps
  pair : pds.all pairD = true
  len : pds.length = i
theorem Pds.snoc {vs ps : List Str} {pds : List PyData} {i : Nat} {nm : Str} {e : PyData} (q : Pds vs ps pds i) (hn : isNm nm = true ∧ ascS nm = true ∧ nm.length ≤ 3) (g : GB vs ps 336 7 e) : Pds vs (ps ++ [nm]) (pds ++ [.tuple [.str nm, e]]) (i + 1) := by
  refine ⟨?_, fun r => ?_, fun p hp => ?_, ?_, ?_, ?_, ?_, ?_⟩
  · rw [nlA_all, List.all_append, Bool.and_eq_true, ← nlA_all]
    refine ⟨q.nl, ?_⟩
    rw [List.all_cons, List.all_nil, Bool.and_true]
    exact nl_tup' fun z hz => by
      simp only [List.mem_cons, List.not_mem_nil, or_false] at hz
      rcases hz with rfl | rfl
      · rfl
      · exact nl_ex g.ex
  · have f := g.fit
    unfold fitB at f
    rw [Bool.and_eq_true] at f
    rw [List.append_assoc, ← q.go]
    show _ = progL vs ps (.tuple [.str nm, e] :: r)
    rw [progL_cons, g.ex, f.1, f.2]
    rfl
  · rcases List.mem_append.mp hp with hp | hp
    · exact q.asc p hp
    · rw [List.mem_singleton.mp hp]
      exact asc_tup' fun z hz => by
        simp only [List.mem_cons, List.not_mem_nil, or_false] at hz
        rcases hz with rfl | rfl
        · exact hn.2.1
        · exact g.asc
  · rw [wtA_app]
    have := q.wt
    have := g.wt
    have := hn.2.2
    simp only [wtA, Any.wt]
    omega
  · rw [depthAll_app]
    have := q.dep
    have := g.dep
    show max (PyData.depthAll pds) (max (max 0 (max e.depth 0) + 1) 0) ≤ 9
    omega
  · rw [headsD_snoc, q.heads]
  · rw [List.all_append, q.pair]
    show (true && (isNm nm && true)) = true
    rw [hn.1]
    rfl
  · rw [List.length_append, q.len]
    rfl
theorem prog_good {vs ps : List Str} {pds : List PyData} {i : Nat} {bd : PyData} (hv : VOk vs) (vnd : vs.Nodup) (vne : vs ≠ []) (vl : vs.length ≤ 3) (q : Pds vs ps pds i) (i2 : i ≤ 2) (pnd : ps.Nodup) (g : GB vs ps 1500 14 bd) : PGood (.tuple [.str "program", .tuple (vs.map PyData.str), .tuple pds, bd]) := by
  have f := g.fit
  unfold fitB at f
  rw [Bool.and_eq_true] at f
  have vpos : 1 ≤ vs.length := by
    cases vs with
    | nil => exact absurd rfl vne
    | cons v vs => simp
  have vlen : (vs.map PyData.str).length = vs.length := List.length_map ..
  refine ⟨?_, ?_, ?_, ?_⟩
  · rw [progD_four, decide_eq_true rfl, varsD_tup, partsD_tup, strsD_map, q.heads, q.pair, decide_eq_true vnd, decide_eq_true pnd, decide_eq_true (show ((pds.length : Nat) : Int) ≤ 6 by rw [q.len]; omega), decide_eq_true (show (1 : Int) ≤ ((vs.map PyData.str).length : Nat) by rw [vlen]; omega), decide_eq_true (show (((vs.map PyData.str).length : Nat) : Int) ≤ 4 by rw [vlen]; omega)]
    have nm : (vs.map PyData.str).all nmD = true := by
      rw [List.all_map]
      exact List.all_eq_true.mpr fun z hz => (hv z hz).1
    have pl : progL vs [] (partsL pds bd) = true := by
      unfold partsL
      rw [← q.go, progL_cons, g.ex, f.1, f.2]
      rfl
    rw [nm, pl]
    rfl
  · refine asc_tup' fun z hz => ?_
    simp only [List.mem_cons, List.not_mem_nil, or_false] at hz
    rcases hz with rfl | rfl | rfl | rfl
    · show ascS "program" = true
      decide +kernel
    · exact asc_tup' fun y hy => by
        obtain ⟨s, hs, rfl⟩ := List.mem_map.mp hy
        exact (hv s hs).2.1
    · exact asc_tup' q.asc
    · exact g.asc
  · have h1 : ∀ ws : List Str, (∀ z ∈ ws, z.length ≤ 3) → wtA (ws.map PyData.str) ≤ 4 * ws.length := by
      intro ws
      induction ws with
      | nil => exact fun _ => Nat.le_refl _
      | cons z ws ih =>
        intro h
        have := ih fun y hy => h y (List.mem_cons_of_mem _ hy)
        have := h z (List.mem_cons_self ..)
        show (1 + z.length) + wtA (ws.map PyData.str) ≤ 4 * (ws.length + 1)
        omega
    have h2 := h1 vs fun z hz => (hv z hz).2.2
    have h3 := q.wt
    have h4 := g.wt
    show 1 + ((1 + ("program" : Str).length) + ((1 + wtA (vs.map PyData.str)) + ((1 + wtA pds) + (Any.wt bd + 0)))) ≤ 3000
    rw [show ("program" : Str).length = 7 by decide +kernel]
    have : i * 400 ≤ 800 := by omega
    omega
  · have h1 := q.dep
    have h2 := g.dep
    have h3 : PyData.depthAll (vs.map PyData.str) ≤ 0 := depthAll_of fun x hx => by
      obtain ⟨s, _, rfl⟩ := List.mem_map.mp hx
      exact Nat.le_refl _
    show max 0 (max (PyData.depthAll (vs.map PyData.str) + 1) (max (PyData.depthAll pds + 1) (max bd.depth 0))) + 1 ≤ 20
    omega
theorem But.fr' {d w sh : Addr} {H H1 H2 : Hp} (b : But d w H H1) (f : Fr [d, w, sh] H1 H2) (hs : H sh = none) : But d w H H2 := fun q o e n1 n2 => f.at (b q o e n1 n2) (by
  simp only [List.mem_cons, List.not_mem_nil, or_false, not_or]
  exact ⟨n1, n2, ne_of_none e hs⟩)
def spPgm (K : PySem.W.Frag) : Sp := fun xs H Q _ => ∃ (d w c : Addr) (t most : Int) (pins : Bool), xs = [.ref d, .int most, .bl pins] ∧ Draw H d w c t ∧ t < 500000000 ∧
  ∀ u dta H', Draw H' d w c (t + 10000) → But d w H H' → Dx K H' u dta → PGood dta → Q u H'
section
variable {P : Program} {w : World} {K : PySem.W.Frag} {mg : Str → Option Value} {base : Heap}
theorem scLawProgram : FnScope ["draw", "most", "pins", "names", "variables", "parts", "shop", "name", "body"] ["draw", "most", "pins"] (defScope sLawProgram) := ⟨rfl, rfl, rfl, by decide +kernel, rfl, by decide +kernel, by decide +kernel⟩
theorem hLawProgram (D : DS K mg) (T : TF mg) : Has P w K mg base CX0 "_law_program" sLawProgram ["draw", "most", "pins"] 20 (spPgm K) := by
  have hLawNames : Has P w K mg base CX0 _ _ _ 4 _ := hLawNames D T
  have hLawTake : Has P w K mg base CX0 _ _ _ 2 _ := hLawTake D T
  have hLawPick : Has P w K mg base CX0 _ _ _ 3 _ := hLawPick D T
  have hE2 : Has P w K mg base CX0 _ _ _ 11 (spExp K 2) := hLawExp1 D T 3
  have hE3 : Has P w K mg base CX0 _ _ _ 13 (spExp K 3) := hLawExp1 D T 4
  refine Has.mk0 D.aLawProgram scLawProgram (fun _ _ _ _ _ _ us hl => match us, hl with | [_, _, _], _ => rfl) (fun vs H Q E h => ?_) (fun cdv A outer s H vs Q E hr h => ?_)
  · obtain ⟨d, w, c, t, most, pins, rfl, _⟩ := h
    rfl
  · obtain ⟨d, w', c, t, most, pins, rfl, dr, ht, k⟩ := h
    refine ⟨_, (pss_cons (ps_set (i := 3) scLawProgram.nd rfl (Or.inl rfl) (pe_fn hLawNames (hr.mono (by decide)) (by rfl) (pa_cons (pv 0) (pa_cons pe_int pa_nil))))
      (pss_cons (ps_par (i := 4) (j := 5) rfl scLawProgram.nd rfl rfl (by decide) rfl rfl (pa_cons (pe_slice sl_list (pv 3) po_none (po_some (pe_fn hLawPick (hr.mono (by decide)) (by rfl) (pa_cons (pv 0) (pa_cons (pe_lst (pa_cons pe_int (pa_cons pe_int (pa_cons pe_int (pa_cons pe_int (pa_cons pe_int pa_nil)))))) pa_nil))))) (pa_cons (pe_lst pa_nil) pa_nil)) (by rfl))
      (pss_cons (ps_set (i := 6) scLawProgram.nd rfl (Or.inl rfl) (pe_disp (pps_cons pe_str (pv 4) (pps_cons pe_str (pe_lst pa_nil) (pps_cons pe_str (pv 1) (pps_cons pe_str pe_int (pps_cons pe_str (pe_cmpR op_eq (pe_fn hLawTake (hr.mono (by decide)) (by rfl) (pa_cons (pv 0) (pa_cons pe_int pa_nil))) pe_int (nomark _)) (pps_cons pe_str (pv 2) pps_nil)))))) (by rfl) (by rfl) (fun z => by cases z) (by decide)))
      (pss_cons (ps_for PassesOwn.never rfl (pi_list (pe_slice sl_list (pv 3) (po_some pe_int) (po_some (pe_op op_add pe_int (pe_fn hLawPick (hr.mono (by decide)) (by rfl) (pa_cons (pv 0) (pa_cons (pe_lst (pa_cons pe_int (pa_cons pe_int (pa_cons pe_int (pa_cons pe_int (pa_cons pe_int (pa_cons pe_int pa_nil))))))) pa_nil))))))) (pg_name (i := 7) scLawProgram.nd rfl (Or.inl rfl))
        (pss_cons (ps_dput (hu_of hr) (pv 6) pe_str (pe_op op_fdiv (pv 1) pe_int) rfl)
        (pss_cons (ps_expr (pe_bm PySem.F.plainAttrs_list PySem.F.slot_list_append PySem.F.type_list_append mt_append (pv 5) (pa_cons (pe_tup (pa_cons (pv 7) (pa_cons (pe_fn hE2 (hr.mono (by decide)) (by rfl) (pa_cons (pv 0) (pa_cons (pv 6) (pa_cons pe_int pa_nil)))) pa_nil))) pa_nil)))
        (pss_one (ps_dput (hu_of hr) (pv 6) pe_str (pe_op op_cat (pe_dget (hu_of hr) (pv 6) pe_str (fun _ _ => rfl)) (pe_lst (pa_cons (pv 7) pa_nil))) rfl)))))
      (pss_cons (ps_dput (hu_of hr) (pv 6) pe_str (pv 1) rfl)
      (pss_cons (ps_set (i := 8) scLawProgram.nd rfl (Or.inl rfl) (pe_tup (pa_cons pe_str (pa_cons (pe_fn hE3 (hr.mono (by decide)) (by rfl) (pa_cons (pv 0) (pa_cons (pv 6) (pa_cons pe_int pa_nil)))) (pa_cons (pe_tup (pa_cons pe_str (pa_cons (pe_fn hE2 (hr.mono (by decide)) (by rfl) (pa_cons (pv 0) (pa_cons (pv 6) (pa_cons pe_int pa_nil)))) pa_nil))) pa_nil)))))
      (pss_cons (ps_if (pt_cmpR op_eq (pe_fn hLawTake (hr.mono (by decide)) (by rfl) (pa_cons (pv 0) (pa_cons pe_int pa_nil))) pe_int (nomark _))
        (pss_one (ps_set (i := 8) scLawProgram.nd rfl (Or.inl rfl) (pe_tup (pa_cons pe_str (pa_cons (pv 8) (pa_cons (pe_tup (pa_cons pe_str (pa_cons (pe_tup (pa_cons pe_str (pa_cons (pe_fn hLawPick (hr.mono (by decide)) (by rfl) (pa_cons (pv 0) (pa_cons (pv 4) pa_nil))) pa_nil))) pa_nil))) pa_nil))))))
        pss_nil)
      (pss_one (ps_ret (pe_tup (pa_cons pe_str (pa_cons (pe_callTy call_tuple_of (by rfl) T.tuple (by decide +kernel) (pa_cons (pv 4) pa_nil)) (pa_cons (pe_callTy call_tuple_of (by rfl) T.tuple (by decide +kernel) (pa_cons (pv 5) pa_nil)) (pa_cons (pv 8) pa_nil)))))))))))))), ?_⟩
    refine ⟨_, rfl, d, w', c, t, rfl, dr, by omega, fun N zs H1 zok zl hN eN dr1 b1 => ?_⟩
    obtain ⟨z1, z2, z3, z4, z5, z6, rfl⟩ := len6 zl
    have nN : N ≠ d ∧ N ≠ w' ∧ N ≠ c := dr.fresh hN
    refine ⟨_, rfl, ?_⟩
    unfold tNoPart
    refine ⟨_, rfl, by show 5 ≤ sizeLine; decide, fun l hl => ?_⟩
    have sl : Same H1 (upd H1 l (.lst [.int 1, .int 2, .int 2, .int 2, .int 3])) := snew hl
    have nl' := dr1.fresh hl
    refine ⟨d, w', c, l, t + 2000, _, rfl, dr1.same sl, by omega, SqL.of upd_same, nl'.1, nl'.2.1, by simp, by show 5 < 1073741824; decide, fun u H2 mu dr2 b2 => ?_⟩
    have eN2 := b2 _ _ (sl _ _ eN) nN.1 nN.2.1
    have b02 := b1.trans ((But.of sl).trans b2)
    obtain ⟨vs, kk, rfl, evs, vne, vl, vsub⟩ : ∃ (vs : List Str) (kk : Int), u = .int kk ∧ cutV ([z1, z2, z3, z4, z5, z6].map V.str) none (some kk) = vs.map V.str ∧ vs ≠ [] ∧ vs.length ≤ 3 ∧ vs.Sublist [z1, z2, z3, z4, z5, z6] := by
      simp only [List.mem_cons, List.not_mem_nil, or_false] at mu
      rcases mu with rfl | rfl | rfl | rfl | rfl
      · exact ⟨[z1], 1, rfl, rfl, by simp, by simp, (List.take_sublist 1 [z1, z2, z3, z4, z5, z6])⟩
      · exact ⟨[z1, z2], 2, rfl, rfl, by simp, by simp, (List.take_sublist 2 [z1, z2, z3, z4, z5, z6])⟩
      · exact ⟨[z1, z2], 2, rfl, rfl, by simp, by simp, (List.take_sublist 2 [z1, z2, z3, z4, z5, z6])⟩
      · exact ⟨[z1, z2], 2, rfl, rfl, by simp, by simp, (List.take_sublist 2 [z1, z2, z3, z4, z5, z6])⟩
      · exact ⟨[z1, z2, z3], 3, rfl, rfl, by simp, by simp, (List.take_sublist 3 [z1, z2, z3, z4, z5, z6])⟩
    have hv : VOk vs := fun z hz => zok.each z (vsub.subset hz)
    refine ⟨kk, rfl, N, _, rfl, SqL.of eN2, fun Va hVa => ?_⟩
    rw [evs]
    have sV : Same H2 (upd H2 Va (.lst (vs.map V.str))) := snew hVa
    have eV : (upd H2 Va (.lst (vs.map V.str))) Va = some (.lst (vs.map V.str)) := upd_same
    have nV := dr2.fresh hVa
    have dr3 := dr2.same sV
    have b03 := b02.trans (But.of sV)
    have eN3 := sV _ _ eN2
    generalize upd H2 Va (.lst (vs.map V.str)) = H3 at eV dr3 b03 eN3 ⊢
    refine ⟨by show 0 ≤ sizeLine; exact Nat.zero_le _, fun Pl hPl => ⟨_, _, rfl, ?_⟩⟩
    have sP : Same H3 (upd H3 Pl (.lst [])) := snew hPl
    have eP : (upd H3 Pl (.lst [])) Pl = some (.lst []) := upd_same
    have nP := dr3.fresh hPl
    have nPV : Pl ≠ Va := (ne_of_none eV hPl).symm
    have dr4 := dr3.same sP
    have b04 := b03.trans (But.of sP)
    have hPH : H Pl = none := by
      cases q : H Pl with
      | none => rfl
      | some o =>
        rw [b03 _ _ q nP.1 nP.2.1] at hPl
        cases hPl
    have eV4 := sP _ _ eV
    have eN4 := sP _ _ eN3
    generalize upd H3 Pl (.lst []) = H4 at eP dr4 b04 eV4 eN4 ⊢
    show tSeq _ _ _ ([some (.ref d), some (.int most), some (.bl pins), some (.ref N), some (.ref Va), some (.ref Pl), none, none, none] : L2.St) _
    refine fun sh hsh => ?_
    have nS := dr4.fresh hsh
    have sS : Same H4 (upd H4 sh (.dK [])) := snew hsh
    have eS : (upd H4 sh (.dK [])) sh = some (.dK []) := upd_same
    have nSP : sh ≠ Pl := (ne_of_none eP hsh).symm
    have nSV : sh ≠ Va := (ne_of_none eV4 hsh).symm
    have nSN : sh ≠ N := (ne_of_none eN4 hsh).symm
    have hSH : H sh = none := by
      cases q : H sh with
      | none => rfl
      | some o =>
        rw [b04 _ _ q nS.1 nS.2.1] at hsh
        cases hsh
    have dr5 := dr4.same sS
    have b05 := b04.trans (But.of sS)
    have eV5 := sS _ _ eV4
    have eN5 := sS _ _ eN4
    have eP5 := sS _ _ eP
    generalize upd H4 sh (.dK []) = H5 at eS dr5 b05 eV5 eN5 eP5 ⊢
    refine ⟨_, rfl, by show 0 ≤ sizeLine; exact Nat.zero_le _, fun Pa hPa => ?_⟩
    have sA : Same H5 (upd H5 Pa (.lst [])) := snew hPa
    have eA : (upd H5 Pa (.lst [])) Pa = some (.lst []) := upd_same
    have nA := dr5.fresh hPa
    have nAP : Pa ≠ Pl := (ne_of_none eP5 hPa).symm
    have nAS : Pa ≠ sh := (ne_of_none eS hPa).symm
    have dr6 := dr5.same sA
    have b06 := b05.trans (But.of sA)
    have eV6 := sA _ _ eV5
    have eN6 := sA _ _ eN5
    have eP6 := sA _ _ eP5
    have eS6 := sA _ _ eS
    generalize upd H5 Pa (.lst []) = H6 at eA dr6 b06 eV6 eN6 eP6 eS6 ⊢
    refine ⟨_, rfl, _, rfl, d, w', c, t + 2000 + 1, 3, rfl, dr6, by omega, by decide, by decide, fun j H7 j0 j3 dr7 b7 => ⟨rfl, _, rfl, b7 _ _ eS6 nS.1 nS.2.1, skv Va Pa most 1 (decide (V.int j = V.int 0)) pins, rfl, by show 6 ≤ 15; decide, ?_⟩⟩
    rw [sk_merge]
    generalize decide (V.int j = V.int 0) = asks
    have b07 := (b06.trans b7).own (o := .dK (skv Va Pa most 1 asks pins)) hSH
    have S8 : Shop (upd H7 sh (.dK (skv Va Pa most 1 asks pins))) d w' c sh Va Pa (t + 2000 + 1 + 1) vs [] most 1 asks pins :=
      ⟨dr7.upd nS.1 nS.2.1 nS.2.2, upd_same, by rw [upd_ne nSV.symm]; exact b7 _ _ eV6 nV.1 nV.2.1, by rw [upd_ne nAS]; exact b7 _ _ eA nA.1 nA.2.1, nS.1, nV.2.1, nA.2.1⟩
    have eN8 : (upd H7 sh (.dK (skv Va Pa most 1 asks pins))) N = some (.lst ([z1, z2, z3, z4, z5, z6].map V.str)) := by rw [upd_ne nSN.symm]; exact b7 _ _ eN6 nN.1 nN.2.1
    have eP8 : (upd H7 sh (.dK (skv Va Pa most 1 asks pins))) Pl = some (.lst []) := by rw [upd_ne nSP.symm]; exact b7 _ _ eP6 nP.1 nP.2.1
    show tSeq _ _ _ ([some (.ref d), some (.int most), some (.bl pins), some (.ref N), some (.ref Va), some (.ref Pl), some (.ref sh), none, none] : L2.St) _
    generalize upd H7 sh (.dK (skv Va Pa most 1 asks pins)) = H8 at b07 S8 eN8 eP8 ⊢
    clear b02 b03 b04 b05 b06 b1 b2 b7 dr dr1 dr2 dr3 dr4 dr5 dr6 dr7 eV eV4 eV5 eV6 eN2 eN3 eN4 eN5 eN6 eP eP5 eP6 eS eS6 eA sl
    -- the parts
    refine ⟨_, rfl, _, rfl, _, rfl, by show 6 ≤ sizeLine; decide, fun l hl => ?_⟩
    have sl : Same H8 (upd H8 l (.lst [.int 0, .int 0, .int 0, .int 1, .int 1, .int 2])) := snew hl
    have nl' := S8.dr.fresh hl
    refine ⟨d, w', c, l, t + 2000 + 1 + 1, _, rfl, S8.dr.same sl, by omega, SqL.of upd_same, nl'.1, nl'.2.1, by simp, by show 6 < 1073741824; decide, fun u H9 mu dr9 b9 => ?_⟩
    have S9 := (S8.same sl).but b9 dr9
    have b09 := b07.trans ((But.of sl).trans b9)
    have eN9 := b9 _ _ (sl _ _ eN8) nN.1 nN.2.1
    have eP9 := b9 _ _ (sl _ _ eP8) nP.1 nP.2.1
    obtain ⟨ns, kq, rfl, ens, nsl, nsub⟩ : ∃ (ns : List Str) (kq : Int), u = .int kq ∧ cutV ([z1, z2, z3, z4, z5, z6].map V.str) (some 3) (some (3 + kq)) = ns.map V.str ∧ ns.length ≤ 2 ∧ ns.Sublist [z1, z2, z3, z4, z5, z6] := by
      simp only [List.mem_cons, List.not_mem_nil, or_false] at mu
      rcases mu with rfl | rfl | rfl | rfl | rfl | rfl
      · exact ⟨[], 0, rfl, rfl, by simp, by simp⟩
      · exact ⟨[], 0, rfl, rfl, by simp, by simp⟩
      · exact ⟨[], 0, rfl, rfl, by simp, by simp⟩
      · exact ⟨[z4], 1, rfl, rfl, by simp, by simp⟩
      · exact ⟨[z4], 1, rfl, rfl, by simp, by simp⟩
      · exact ⟨[z4, z5], 2, rfl, rfl, by simp, (List.take_sublist 2 [z4, z5, z6]).trans (List.drop_sublist 3 [z1, z2, z3, z4, z5, z6])⟩
    have hn : VOk ns := fun z hz => zok.each z (nsub.subset hz)
    have nnd : ns.Nodup := zok.nd.sublist nsub
    refine ⟨_, _, rfl, rfl, _, rfl, N, _, rfl, SqL.of eN9, fun Sl hSl => ?_⟩
    rw [ens]
    have sS2 : Same H9 (upd H9 Sl (.lst (ns.map V.str))) := snew hSl
    have eSl : (upd H9 Sl (.lst (ns.map V.str))) Sl = some (.lst (ns.map V.str)) := upd_same
    have nSl := S9.fresh hSl
    have nSlP : Sl ≠ Pl := (ne_of_none eP9 hSl).symm
    have S10 := S9.same sS2
    have b10 := b09.trans (But.of sS2)
    have eP10 := sS2 _ _ eP9
    generalize upd H9 Sl (.lst (ns.map V.str)) = H10 at eSl S10 b10 eP10 ⊢
    clear S8 S9 b07 b09 eN8 eP8 eN9 eP9 sl b9
    refine ⟨Sl, rfl, ⟨_, SqL.of eSl⟩, for_it (walk_list (K := K) (a := Sl) (xs := ns.map V.str)) (fun i σ Hc => ∃ (pa : Addr) (ps : List Str) (pvs : List V) (pds : List PyData) (left loops : Int) (v7 : Option V), σ = [some (.ref d), some (.int most), some (.bl pins), some (.ref N), some (.ref Va), some (.ref Pl), some (.ref sh), v7, none] ∧
      Hc Sl = some (.lst (ns.map V.str)) ∧ Hc Pl = some (.lst pvs) ∧ DxAll K Hc pvs pds ∧ Pds vs ps pds i ∧ ps = ns.take i ∧ Shop Hc d w' c sh Va pa (t + 2010 + i * 400) vs ps left loops asks pins ∧ But d w' H Hc ∧ pa ≠ Pl ∧ Sl ≠ pa)
      ⟨Pa, [], [], [], most, 1, none, rfl, eSl, eP10, .nil, ⟨rfl, fun _ => rfl, (fun _ h => nomatch h), Nat.le_refl _, Nat.zero_le _, rfl, rfl, rfl⟩, rfl, S10.mono (by omega), b10, nAP, nSl.2.2.2.2.2⟩ (fun _ _ _ _ ⟨_, _, _, _, _, _, _, _, e, _⟩ => SqL.of e) ?_ ?_⟩
    · rintro i y σ Hc Hc' hi ⟨pa, ps, pvs, pds, left, loops, v7, rfl, cSl, cPl, dA, pd, hps, S, b, nPa, nSa⟩ ⟨rfl, hy⟩
      rw [List.length_map] at hi
      rw [List.getElem?_map, List.getElem?_eq_getElem hi] at hy
      cases Option.some.inj hy
      have hpsub : ∀ z ∈ ps, z ∈ ns := fun z hz => by rw [hps] at hz; exact List.mem_of_mem_take hz
      have hp : VOk ps := fun z hz => hn z (hpsub z hz)
      have lps : ps.length ≤ 1000 := by rw [hps, List.length_take]; omega
      have tk : ns.take (i + 1) = ps ++ [ns[i]] := by rw [hps, List.take_succ, List.getElem?_eq_getElem hi]; rfl
      have hnm := hn ns[i] (List.getElem_mem _)
      generalize ns[i] = nm at *
      show tSeq _ _ _ ([some (.ref d), some (.int most), some (.bl pins), some (.ref N), some (.ref Va), some (.ref Pl), some (.ref sh), some (.str nm), none] : L2.St) _
      refine ⟨_, rfl, _, _, rfl, rfl, ⟨by decide, by decide⟩, _, rfl, sh, _, rfl, S.putLeft _, ?_⟩
      have S1 := S.set (most / 3) loops
      have f1 : Fr [d, w', sh] Hc' (upd Hc' sh (.dK (skv Va pa (most / 3) loops asks pins))) := Fr.set (by simp)
      have T1 : Tst Hc' (upd Hc' sh (.dK (skv Va pa (most / 3) loops asks pins))) := f1.tst S.mt
      have b1 := b.own (o := .dK (skv Va pa (most / 3) loops asks pins)) hSH
      have cSl1 : (upd Hc' sh (.dK (skv Va pa (most / 3) loops asks pins))) Sl = some (.lst (ns.map V.str)) := by rw [upd_ne nSl.2.2.2.1]; exact cSl
      have cPl1 : (upd Hc' sh (.dK (skv Va pa (most / 3) loops asks pins))) Pl = some (.lst pvs) := by rw [upd_ne nSP.symm]; exact cPl
      have dA1 := T1.dxA pd.nl dA
      generalize upd Hc' sh (.dK (skv Va pa (most / 3) loops asks pins)) = G1 at S1 b1 cSl1 cPl1 dA1 ⊢
      refine ⟨_, rfl, .inl ⟨rfl, _, SqL.of cPl1⟩, _, rfl, _, rfl, _, rfl, d, w', c, sh, Va, pa, t + 2010 + i * 400, vs, ps, _, loops, asks, pins, rfl, S1, by show t + 2010 + i * 400 + 2 * 116 < 600000000; omega, vne, by omega, hv, lps, hp, by decide, fun u e l1 o1 H3 S3 f3 hu g => ?_⟩
      have T3 := f3.tst S1.mt
      have b3 := b1.fr' f3 hSH
      have noD : ∀ {z : Addr}, z ≠ d ∧ z ≠ w' ∧ z ≠ sh → z ∉ [d, w', sh] := fun h => by simp only [List.mem_cons, List.not_mem_nil, or_false, not_or]; exact h
      have cSl3 := f3.at cSl1 (noD ⟨nSl.1, nSl.2.1, nSl.2.2.2.1⟩)
      have cPl3 := f3.at cPl1 (noD ⟨nP.1, nP.2.1, nSP.symm⟩)
      have dA3 := T3.dxA pd.nl dA1
      refine ⟨by show 2 ≤ sizeLine; decide, fun q hq => ?_⟩
      have sq : Same H3 (upd H3 q (.tup [.str nm, u])) := snew hq
      have tq : Dx K (upd H3 q (.tup [.str nm, u])) (.ref q) (.tuple [.str nm, e]) := .tup (SqT.of upd_same) (.cons (.str nm) (.cons (dxSame sq _ _ hu) .nil))
      have S4 := S3.same sq
      have b4 := b3.trans (But.of sq)
      have cSl4 := sq _ _ cSl3
      have cPl4 := sq _ _ cPl3
      have dA4 := dxSameA sq _ _ dA3
      generalize upd H3 q (.tup [.str nm, u]) = G4 at tq S4 b4 cSl4 cPl4 dA4 ⊢
      have pd' := pd.snoc hnm (g.mono (by decide) (by decide))
      have T5 : Tst G4 (upd G4 Pl (.lst (pvs ++ [.ref q]))) := Tst.set cPl4 trivial
      have dA5 : DxAll K (upd G4 Pl (.lst (pvs ++ [.ref q]))) (pvs ++ [.ref q]) (pds ++ [.tuple [.str nm, e]]) := T5.dxA pd'.nl (DxAll.app dA4 (.cons tq .nil))
      have nPa5 : Pl ≠ d ∧ Pl ≠ w' ∧ Pl ≠ c ∧ Pl ≠ sh ∧ Pl ≠ Va ∧ Pl ≠ pa := ⟨nP.1, nP.2.1, nP.2.2, nSP.symm, nPV, nPa.symm⟩
      have S5 := S4.wr (o := .lst (pvs ++ [.ref q])) nPa5
      have b5 := b4.own (o := .lst (pvs ++ [.ref q])) hPH
      have cSl5 : (upd G4 Pl (.lst (pvs ++ [.ref q]))) Sl = some (.lst (ns.map V.str)) := by rw [upd_ne nSlP]; exact cSl4
      have cPl5 : (upd G4 Pl (.lst (pvs ++ [.ref q]))) Pl = some (.lst (pvs ++ [.ref q])) := upd_same
      refine ⟨Pl, pvs, _, rfl, rfl, cPl4, ?_, ?_⟩
      · have l1 := DxAll.len dA
        rw [pd.len] at l1
        rw [sizeLine_eq]
        omega
      generalize upd G4 Pl (.lst (pvs ++ [.ref q])) = G5 at T5 dA5 S5 b5 cSl5 cPl5 ⊢
      refine ⟨_, rfl, sh, _, rfl, S5.gParts, _, rfl, by show 1 ≤ sizeLine; decide, fun l1' h1 => ?_⟩
      have s6 : Same G5 (upd G5 l1' (.lst [.str nm])) := snew h1
      have e6 : (upd G5 l1' (.lst [.str nm])) l1' = some (.lst [.str nm]) := upd_same
      have S6 := S5.same s6
      generalize upd G5 l1' (.lst [.str nm]) = G6 at s6 e6 S6 ⊢
      refine ⟨pa, l1', _, _, rfl, rfl, S6.pa_, e6, ?_, fun pa' hpa' => ?_⟩
      · rw [List.length_map, sizeLine_eq]
        simp only [List.length_cons, List.length_nil]
        omega
      have s7 : Same G6 (upd G6 pa' (.lst (ps.map V.str ++ [.str nm]))) := snew hpa'
      have e7 : (upd G6 pa' (.lst (ps.map V.str ++ [.str nm]))) pa' = some (.lst (ps.map V.str ++ [.str nm])) := upd_same
      have n7 := S6.fresh hpa'
      have S7 := S6.same s7
      have s57 := s6.trans s7
      have cPl7 := s57 _ _ cPl5
      have cSl7 := s57 _ _ cSl5
      have nPpa : pa' ≠ Pl := (ne_of_none (s6 _ _ cPl5) hpa').symm
      have nSpa : Sl ≠ pa' := ne_of_none (s6 _ _ cSl5) hpa'
      have dA7 := dxSameA s57 _ _ dA5
      have b7 := b5.trans (But.of s57)
      generalize upd G6 pa' (.lst (ps.map V.str ++ [.str nm])) = G7 at s7 e7 S7 cPl7 cSl7 dA7 b7 ⊢
      refine ⟨_, rfl, sh, _, rfl, S7.putParts (pa' := pa'), pa', ps ++ [nm], pvs ++ [.ref q], pds ++ [.tuple [.str nm, e]], l1, o1, _, rfl, ?_, ?_, ?_, pd', tk.symm, ?_, b7.own hSH, nPpa, nSpa⟩
      · rw [upd_ne nSl.2.2.2.1]
        exact cSl7
      · rw [upd_ne nSP.symm]
        exact cPl7
      · exact (Tst.set (o := .dK (skv Va pa l1 o1 asks pins)) S7.at_ trivial).dxA pd'.nl dA7
      · refine Shop.mono (t := t + 2010 + i * 400 + Tn 2) ⟨S7.dr.upd nS.1 nS.2.1 nS.2.2, upd_same, by rw [upd_ne nSV.symm]; exact S7.va_, by rw [upd_ne n7.2.2.2.1, e7, List.map_append]; rfl, nS.1, nV.2.1, n7.2.1⟩ ?_
        show t + 2010 + i * 400 + 116 ≤ t + 2010 + ((i + 1 : Nat) : Int) * 400
        omega
    · rintro σ Hc ⟨pa, ps, pvs, pds, left, loops, v7, rfl, cSl, cPl, dA, pd, hps, S, b, nPa, nSa⟩
      rw [List.length_map] at pd hps S
      rw [List.take_length] at hps
      subst hps
      show tSeq _ _ _ ([some (.ref d), some (.int most), some (.bl pins), some (.ref N), some (.ref Va), some (.ref Pl), some (.ref sh), v7, none] : L2.St) _
      refine ⟨_, rfl, _, rfl, sh, _, rfl, S.putLeft most, ?_⟩
      have S1 := S.set most loops
      have f1 : Fr [d, w', sh] Hc (upd Hc sh (.dK (skv Va pa most loops asks pins))) := Fr.set (by simp)
      have T1 := f1.tst S.mt
      have b1 := b.own (o := .dK (skv Va pa most loops asks pins)) hSH
      have cPl1 : (upd Hc sh (.dK (skv Va pa most loops asks pins))) Pl = some (.lst pvs) := by rw [upd_ne nSP.symm]; exact cPl
      have dA1 := T1.dxA pd.nl dA
      generalize upd Hc sh (.dK (skv Va pa most loops asks pins)) = G1 at S1 b1 cPl1 dA1 ⊢
      have noD : ∀ {z : Addr}, z ≠ d ∧ z ≠ w' ∧ z ≠ sh → z ∉ [d, w', sh] := fun h => by simp only [List.mem_cons, List.not_mem_nil, or_false, not_or]; exact h
      have iB : ((ps.length : Nat) : Int) * 400 ≤ 800 := by omega
      refine ⟨_, rfl, _, rfl, d, w', c, sh, Va, pa, t + 2010 + (ps.length : Nat) * 400, vs, ps, most, loops, asks, pins, rfl, S1, by show t + 2010 + (ps.length : Nat) * 400 + 2 * 368 < 600000000; omega, vne, by omega, hv, by omega, hn, by decide, fun u1 y1 l1 o1 H2 S2 f2 hu1 g1 => ?_⟩
      have b2' := b1.fr' f2 hSH
      have T2 := f2.tst S1.mt
      have cPl2 := f2.at cPl1 (noD ⟨nP.1, nP.2.1, nSP.symm⟩)
      have dA2 := T2.dxA pd.nl dA1
      refine ⟨_, rfl, _, rfl, d, w', c, sh, Va, pa, t + 2010 + (ps.length : Nat) * 400 + Tn 3, vs, ps, l1, o1, asks, pins, rfl, S2, by show t + 2010 + (ps.length : Nat) * 400 + 368 + 2 * 116 < 600000000; omega, vne, by omega, hv, by omega, hn, by decide, fun u2 y2 l2 o2 H3 S3 f3 hu2 g2 => ?_⟩
      have b3 := b2'.fr' f3 hSH
      have T3 := f3.tst S2.mt
      have cPl3 := f3.at cPl2 (noD ⟨nP.1, nP.2.1, nSP.symm⟩)
      have dA3 := T3.dxA pd.nl dA2
      have hu13 := T3.dx (nl_ex g1.ex) hu1
      refine ⟨by show 2 ≤ sizeLine; decide, fun q1 h1 => ?_⟩
      have s4 : Same H3 (upd H3 q1 (.tup [.str "show", u2])) := snew h1
      have t4 : Dx K (upd H3 q1 (.tup [.str "show", u2])) (.ref q1) (.tuple [.str "show", y2]) := .tup (SqT.of upd_same) (.cons (.str _) (.cons (dxSame s4 _ _ hu2) .nil))
      generalize upd H3 q1 (.tup [.str "show", u2]) = G4 at s4 t4 ⊢
      refine ⟨by show 3 ≤ sizeLine; decide, fun q2 h2 => ?_⟩
      have s5 : Same G4 (upd G4 q2 (.tup [.str "then", u1, .ref q1])) := snew h2
      have t5 : Dx K (upd G4 q2 (.tup [.str "then", u1, .ref q1])) (.ref q2) (.tuple [.str "then", y1, .tuple [.str "show", y2]]) := .tup (SqT.of upd_same) (.cons (.str _) (.cons (dxSame (s4.trans s5) _ _ hu13) (.cons (dxSame s5 _ _ t4) .nil)))
      have s45 := s4.trans s5
      have S5 := S3.same s45
      have b5 := b3.trans (But.of s45)
      have cPl5 := s45 _ _ cPl3
      have dA5 := dxSameA s45 _ _ dA3
      generalize upd G4 q2 (.tup [.str "then", u1, .ref q1]) = G5 at t5 S5 b5 cPl5 dA5 ⊢
      have g5 : GB vs ps 1500 12 (.tuple [.str "then", y1, .tuple [.str "show", y2]]) := (gb_two (h := "then") (by decide +kernel) (g1.mono (b' := 1056) (k' := 10) (by decide) (by decide)) ((gb_show g2).mono (b' := 343) (k' := 10) (by decide) (by decide))).mono (by decide) (by decide)
      have g5' : GB vs ps 1406 12 (.tuple [.str "then", y1, .tuple [.str "show", y2]]) := (gb_two (h := "then") (by decide +kernel) (g1.mono (b' := 1056) (k' := 10) (by decide) (by decide)) ((gb_show g2).mono (b' := 343) (k' := 10) (by decide) (by decide))).mono (by decide) (by decide)
      have tt : t + 2010 + (ps.length : Nat) * 400 + Tn 3 + Tn 2 ≤ t + 5000 := by
        show t + 2010 + (ps.length : Nat) * 400 + 368 + 116 ≤ t + 5000
        omega
      have S5' := S5.mono tt
      show tSeq _ _ _ ([some (.ref d), some (.int most), some (.bl pins), some (.ref N), some (.ref Va), some (.ref Pl), some (.ref sh), v7, some (.ref q2)] : L2.St) _
      clear S1 S2 S3 b1 b2' b3 cPl1 cPl2 cPl3 dA1 dA2 dA3 hu1 hu2 hu13 T1 T2 T3 f1 f2 f3 S5
      refine (fun (rest : ∀ (A : Addr) (H6 : Hp), (∃ bd, Dx K H6 (.ref A) bd ∧ GB vs ps 1500 14 bd ∧ Shop H6 d w' c sh Va pa (t + 5002) vs ps l2 o2 asks pins ∧ But d w' H H6 ∧ H6 Pl = some (.lst pvs) ∧ DxAll K H6 pvs pds) → (?G : Addr → Hp → Prop) A H6) => ?first) ?second
      case first =>
        refine ⟨_, rfl, d, w', c, t + 5000, 2, rfl, S5'.dr, by omega, by decide, by decide, fun j H6 j0 j2 dr6 b6 => ⟨rfl, _, rfl, ite2 (fun aj => ?_) (fun aj => ?_)⟩⟩
        · have S6 := S5'.but b6 dr6
          have T6 := (b6.fr3 (sh := sh)).tst S5'.mt
          have cPl6 := b6 _ _ cPl5 nP.1 nP.2.1
          have dA6 := T6.dxA pd.nl dA5
          have t6 := T6.dx (nl_ex g5.ex) t5
          refine ⟨_, rfl, _, rfl, _, rfl, d, w', c, Va, t + 5000 + 1, _, rfl, dr6, by omega, SqL.of S6.va_, S6.ne.2.2.1, S6.n2, by simpa using vne, by rw [List.length_map]; omega, fun u H7 mu dr7 b7 => ?_⟩
          obtain ⟨x, mx, rfl⟩ := str_mem mu
          have S7 := S6.but b7 dr7
          have T7 := (b7.fr3 (sh := sh)).tst S6.mt
          have cPl7 := b7 _ _ cPl6 nP.1 nP.2.1
          have dA7 := T7.dxA pd.nl dA6
          have t7 := T7.dx (nl_ex g5.ex) t6
          have b07 := b5.trans (b6.trans b7)
          refine ⟨by show 2 ≤ sizeLine; decide, fun p1 hp1 => ?_⟩
          have s1 : Same H7 (upd H7 p1 (.tup [.str "name", .str x])) := snew hp1
          have e1 : Dx K (upd H7 p1 (.tup [.str "name", .str x])) (.ref p1) (.tuple [.str "name", .str x]) := .tup (SqT.of upd_same) (.cons (.str _) (.cons (.str x) .nil))
          generalize upd H7 p1 (.tup [.str "name", .str x]) = K1 at s1 e1 ⊢
          refine ⟨by show 2 ≤ sizeLine; decide, fun p2 hp2 => ?_⟩
          have s2 : Same K1 (upd K1 p2 (.tup [.str "show", .ref p1])) := snew hp2
          have e2 : Dx K (upd K1 p2 (.tup [.str "show", .ref p1])) (.ref p2) (.tuple [.str "show", .tuple [.str "name", .str x]]) := .tup (SqT.of upd_same) (.cons (.str _) (.cons (dxSame s2 _ _ e1) .nil))
          generalize upd K1 p2 (.tup [.str "show", .ref p1]) = K2 at s2 e2 ⊢
          refine ⟨by show 3 ≤ sizeLine; decide, fun p3 hp3 => ?_⟩
          have s3 : Same K2 (upd K2 p3 (.tup [.str "then", .ref q2, .ref p2])) := snew hp3
          have s13 := s1.trans (s2.trans s3)
          have e3 : Dx K (upd K2 p3 (.tup [.str "then", .ref q2, .ref p2])) (.ref p3) (.tuple [.str "then", .tuple [.str "then", y1, .tuple [.str "show", y2]], .tuple [.str "show", .tuple [.str "name", .str x]]]) := .tup (SqT.of upd_same) (.cons (.str _) (.cons (dxSame s13 _ _ t7) (.cons (dxSame s3 _ _ e2) .nil)))
          have S8 := S7.same s13
          have b8 := b07.trans (But.of s13)
          have cPl8 := s13 _ _ cPl7
          have dA8 := dxSameA s13 _ _ dA7
          generalize upd K2 p3 (.tup [.str "then", .ref q2, .ref p2]) = K3 at e3 S8 b8 cPl8 dA8 ⊢
          exact rest p3 K3 ⟨_, e3, (gb_two (h := "then") (by decide +kernel) g5' ((gb_show (gb_name (ps := ps) hv mx)).mono (b' := 23) (k' := 12) (by decide) (by decide))).mono (by decide) (by decide), S8.mono (by omega), b8, cPl8, dA8⟩
        · have S6 := S5'.but b6 dr6
          have T6 := (b6.fr3 (sh := sh)).tst S5'.mt
          exact rest q2 H6 ⟨_, T6.dx (nl_ex g5.ex) t5, g5.mono (by decide) (by decide), S6.mono (by omega), b5.trans b6, b6 _ _ cPl5 nP.1 nP.2.1, T6.dxA pd.nl dA5⟩
      case second =>
      rintro A H6 ⟨bd, hbd, gbd, S6, b6, cPl6, dA6⟩
      refine ⟨_, rfl, Va, _, rfl, .inl ⟨SqL.of S6.va_, fun p1 hp1 => ?_⟩⟩
      have s1 : Same H6 (upd H6 p1 (.tup (vs.map V.str))) := snew hp1
      have e1 : Dx K (upd H6 p1 (.tup (vs.map V.str))) (.ref p1) (.tuple (vs.map PyData.str)) := .tup (SqT.of upd_same) (dx_strs' vs)
      generalize upd H6 p1 (.tup (vs.map V.str)) = K1 at s1 e1 ⊢
      refine ⟨_, rfl, Pl, _, rfl, .inl ⟨SqL.of (s1 _ _ cPl6), fun p2 hp2 => ?_⟩⟩
      have s2 : Same K1 (upd K1 p2 (.tup pvs)) := snew hp2
      have e2 : Dx K (upd K1 p2 (.tup pvs)) (.ref p2) (.tuple pds) := .tup (SqT.of upd_same) (dxSameA (s1.trans s2) _ _ dA6)
      generalize upd K1 p2 (.tup pvs) = K2 at s2 e2 ⊢
      refine ⟨_, rfl, by show 4 ≤ sizeLine; decide, fun p3 hp3 => ?_⟩
      have s3 : Same K2 (upd K2 p3 (.tup [.str "program", .ref p1, .ref p2, .ref A])) := snew hp3
      have s13 := s1.trans (s2.trans s3)
      refine k (.ref p3) _ _ ((S6.dr.same s13).mono (by omega)) (b6.trans (But.of s13)) ?_ (prog_good hv (zok.nd.sublist vsub) vne vl pd nsl nnd gbd)
      exact .tup (SqT.of upd_same) (.cons (.str _) (.cons (dxSame (s2.trans s3) _ _ e1) (.cons (dxSame s3 _ _ e2) (.cons (dxSame s13 _ _ hbd) .nil))))
end
end Any
set_option Elab.async false
set_option linter.all false
set_option maxRecDepth 100000
set_option maxHeartbeats 8000000
/-! A program of more parts. -/
namespace Any
open PySem PySem.Spec PyProof.Rows L2 RT
open He (ga ma)
def pNames : List Str := ["pa", "pb", "pc", "pd", "pe", "pf", "pg"]
theorem pn_good : ∀ x ∈ pNames ++ ([("body" : Str), "pa", "set"] : List Str), ascS x = true ∧ x.length ≤ 4 := by decide +kernel
theorem pn_at : ∀ i < 7, ∃ x, pNames[i]? = some x ∧ x ∈ pNames := by decide +kernel
/-- a part of the kind -/
def PartOk (p : PyData) : Prop := nl p = true ∧ asc p = true ∧ wt p ≤ 30 ∧ p.depth ≤ 2
def spMore (K : PySem.W.Frag) : Sp := fun xs H Q _ => ∃ (d w c : Addr) (t : Int) (v : V) (w0 ns ps bd : PyData), xs = [.ref d, v] ∧ Draw H d w c t ∧ t < 500000000 ∧ Dx K H v (.tuple [w0, ns, ps, bd]) ∧ nl (.tuple [w0, ns, ps, bd]) = true ∧
  ∀ u qs H', Draw H' d w c (t + 100) → But d w H H' → Dx K H' u (.tuple [w0, ns, .tuple qs, bd]) → (∀ q ∈ qs, PartOk q) → qs.length ≤ 7 → Q u H'
section
variable {P : Program} {w : World} {K : PySem.W.Frag} {mg : Str → Option Value} {base : Heap}
theorem scLawMoreParts : FnScope ["draw", "program", "names", "found", "k", "e"] ["draw", "program"] (defScope sLawMoreParts) := ⟨rfl, rfl, rfl, by decide +kernel, rfl, by decide +kernel, by decide +kernel⟩
theorem hLawMore (D : DS K mg) (T : TF mg) : Has P w K mg base CX0 "_law_more_parts" sLawMoreParts ["draw", "program"] 4 (spMore K) := by
  have hLawTake : Has P w K mg base CX0 _ _ _ 2 _ := hLawTake D T
  have hLawPick : Has P w K mg base CX0 _ _ _ 3 _ := hLawPick D T
  refine Has.mk0 D.aLawMoreParts scLawMoreParts (fun _ _ _ _ _ _ us hl => match us, hl with | [_, _], _ => rfl) (fun vs H Q E h => ?_) (fun cdv A outer s H vs Q E hr h => ?_)
  · obtain ⟨d, w, c, t, v, w0, ns, ps, bd, rfl, _⟩ := h
    rfl
  · obtain ⟨d, w', c, t, v, w0, ns, ps, bd, rfl, dr, ht, hd, hnl, k⟩ := h
    refine ⟨_, (pss_cons (ps_par (i := 2) (j := 3) rfl scLawMoreParts.nd rfl rfl (by decide) rfl rfl (pa_cons (pe_lst (pa_cons pe_str (pa_cons pe_str (pa_cons pe_str (pa_cons pe_str (pa_cons pe_str (pa_cons pe_str (pa_cons pe_str pa_nil)))))))) (pa_cons (pe_lst pa_nil) pa_nil)) (by rfl))
      (pss_cons (ps_for PassesOwn.never rfl (pi_range1 (by rfl) T.range (pa_cons (pe_op op_add pe_int (pe_fn hLawTake (hr.mono (by decide)) (by rfl) (pa_cons (pv 0) (pa_cons pe_int pa_nil)))) pa_nil)) (pg_name (i := 4) scLawMoreParts.nd rfl (Or.inl rfl))
        (pss_cons (ps_set (i := 5) scLawMoreParts.nd rfl (Or.inl rfl) (pe_ifExp (pt_cmpR op_eq (pe_fn hLawTake (hr.mono (by decide)) (by rfl) (pa_cons (pv 0) (pa_cons pe_int pa_nil))) pe_int (nomark _)) (pe_tup (pa_cons pe_str (pa_cons (pe_ix ix_list (pv 2) (pe_fn hLawTake (hr.mono (by decide)) (by rfl) (pa_cons (pv 0) (pa_cons (pe_op op_add (pv 4) pe_int) pa_nil))) (fun _ _ => rfl)) pa_nil))) (pe_tup (pa_cons pe_str pa_nil))))
        (pss_one (ps_expr (pe_bm PySem.F.plainAttrs_list PySem.F.slot_list_append PySem.F.type_list_append mt_append (pv 3) (pa_cons (pe_tup (pa_cons (pe_ifExp (pt_cmpR op_gt (pe_fn hLawTake (hr.mono (by decide)) (by rfl) (pa_cons (pv 0) (pa_cons pe_int pa_nil))) pe_int (nomark _)) (pe_ix ix_list (pv 2) (pv 4) (fun _ _ => rfl)) (pe_fn hLawPick (hr.mono (by decide)) (by rfl) (pa_cons (pv 0) (pa_cons (pe_lst (pa_cons pe_str (pa_cons pe_str (pa_cons pe_str pa_nil)))) pa_nil)))) (pa_cons (pv 5) pa_nil))) pa_nil))))))
      (pss_one (ps_ret (pe_op op_catA (pe_slice sl_tupA (pv 1) po_none (po_some pe_int)) (pe_tup (pa_cons (pe_callTy call_tuple_of (by rfl) T.tuple (by decide +kernel) (pa_cons (pv 3) pa_nil)) (pa_cons (pe_ix ix_tup (pv 1) pe_int (fun _ _ => rfl)) pa_nil)))))))), ?_⟩
    refine ⟨by show 7 ≤ sizeLine; decide, fun N hN => ⟨by show 0 ≤ sizeLine; exact Nat.zero_le _, fun F hF => ⟨_, _, rfl, ?_⟩⟩⟩
    have s1 : Same H (upd H N (.lst (pNames.map V.str))) := snew hN
    have eN : (upd H N (.lst (pNames.map V.str))) N = some (.lst (pNames.map V.str)) := upd_same
    have nN := dr.fresh hN
    have dr1 := dr.same s1
    change (upd H N (.lst (pNames.map V.str))) F = none at hF
    show tSeq _ _ _ ([some (.ref d), some v, some (.ref N), some (.ref F), none, none] : L2.St) (upd (upd H N (.lst (pNames.map V.str))) F (.lst []))
    have nF := dr1.fresh hF
    have hFH : H F = none := s1.free hF
    have nFN : F ≠ N := (ne_of_none eN hF).symm
    generalize upd H N (.lst (pNames.map V.str)) = H1 at s1 eN dr1 hF ⊢
    have s2 : Same H1 (upd H1 F (.lst [])) := snew hF
    have eF : (upd H1 F (.lst [])) F = some (.lst []) := upd_same
    have dr2 := dr1.same s2
    have eN2 := s2 _ _ eN
    have b2 : But d w' H (upd H1 F (.lst [])) := But.of (s1.trans s2)
    generalize upd H1 F (.lst []) = H2 at eF dr2 eN2 b2 ⊢
    refine ⟨_, rfl, d, w', c, t, 5, rfl, dr2, by omega, by decide, by decide, fun m H3 m0 m5 dr3 b3 => ⟨_, _, rfl, rfl, ?_⟩⟩
    obtain ⟨mm, rfl⟩ := Int.eq_ofNat_of_zero_le m0
    refine ⟨3 + (mm : Int), rfl, by omega, by omega, ?_⟩
    have b03 := b2.trans b3
    have eN3 := b3 _ _ eN2 nN.1 nN.2.1
    have eF3 := b3 _ _ eF nF.1 nF.2.1
    have mts : ∀ {Hx : Hp} {tx : Int}, Draw Hx d w' c tx → ∀ b ∈ [d, w'], ∀ o, Hx b = some o → Mt o := fun drx b hb o e => by
      obtain ⟨ws, cs, r, u', g1, g2, g3, g4⟩ := drx
      simp only [List.mem_cons, List.not_mem_nil, or_false] at hb
      rcases hb with rfl | rfl
      · rw [g1] at e
        cases e
        trivial
      · rw [g2] at e
        cases e
        trivial
    have hd3 := (b03.fr.tst (mts dr)).dx hnl hd
    have hn7 : (3 + (mm : Int)).toNat ≤ 7 := by omega
    refine for_it (walk_range (lo := 0) (n := (3 + (mm : Int)).toNat)) (fun i σ Hc => ∃ (fv : List V) (qs : List PyData) (v4 v5 : Option V), σ = [some (.ref d), some v, some (.ref N), some (.ref F), v4, v5] ∧ Hc N = some (.lst (pNames.map V.str)) ∧ Hc F = some (.lst fv) ∧ DxAll K Hc fv qs ∧ (∀ q ∈ qs, PartOk q) ∧ qs.length = i ∧ Draw Hc d w' c (t + 1 + i * 5) ∧ But d w' H Hc ∧ Dx K Hc v (.tuple [w0, ns, ps, bd]))
      ⟨[], [], none, none, rfl, eN3, eF3, .nil, (fun _ h => nomatch h), rfl, dr3.mono (by omega), b03, hd3⟩ (fun _ _ _ _ _ => trivial) ?_ ?_
    · rintro i y σ Hc Hc' hi ⟨fv, qs, v4, v5, rfl, cN, cF, dA, qA, lq, drc, bc, hdc⟩ ⟨rfl, rfl⟩
      have lf := DxAll.len dA
      have nlq : nlA qs = true := by
        rw [nlA_all, List.all_eq_true]
        exact fun q hq => (qA q hq).1
      obtain ⟨xk, hxk, mxk⟩ := pn_at i (by omega)
      show tSeq _ _ _ ([some (.ref d), some v, some (.ref N), some (.ref F), some (.int ((0 : Int) + (i : Nat))), v5] : L2.St) _
      refine (fun (rest : ∀ (A : Addr) (H4 : Hp), (∃ te, Dx K H4 (.ref A) te ∧ nl te = true ∧ asc te = true ∧ wt te ≤ 12 ∧ te.depth ≤ 1 ∧ H4 N = some (.lst (pNames.map V.str)) ∧ H4 F = some (.lst fv) ∧ DxAll K H4 fv qs ∧ Draw H4 d w' c (t + 1 + i * 5 + 2) ∧ But d w' H H4 ∧ Dx K H4 v (.tuple [w0, ns, ps, bd])) → (?G : Addr → Hp → Prop) A H4) => ?first) ?second
      case first =>
        refine ⟨_, rfl, d, w', c, t + 1 + i * 5, 2, rfl, drc, by omega, by decide, by decide, fun j H4 j0 j2 dr4 b4 => ⟨rfl, _, rfl, ite2 (fun aj => ?_) (fun aj => ?_)⟩⟩
        · have T4 := b4.fr.tst (mts drc)
          refine ⟨_, rfl, _, rfl, _, rfl, _, _, rfl, rfl, d, w', c, t + 1 + i * 5 + 1, ((0 : Int) + (i : Nat)) + 1, rfl, dr4, by omega, by omega, by omega, fun a H5 a0 al dr5 b5 => ?_⟩
          obtain ⟨an, rfl⟩ := Int.eq_ofNat_of_zero_le a0
          obtain ⟨xa, hxa, mxa⟩ := pn_at an (by omega)
          have T5 := T4.trans (b5.fr.tst (mts dr4))
          have cN5 := b5 _ _ (b4 _ _ cN nN.1 nN.2.1) nN.1 nN.2.1
          have cF5 := b5 _ _ (b4 _ _ cF nF.1 nF.2.1) nF.1 nF.2.1
          refine ⟨N, _, _, .str xa, rfl, rfl, SqL.of cN5, atI_nat (by rw [List.getElem?_map, hxa]; rfl), by show 2 ≤ sizeLine; decide, fun p hp => ?_⟩
          have sp : Same H5 (upd H5 p (.tup [.str "call", .str xa])) := snew hp
          have ep : Dx K (upd H5 p (.tup [.str "call", .str xa])) (.ref p) (.tuple [.str "call", .str xa]) := .tup (SqT.of upd_same) (.cons (.str _) (.cons (.str xa) .nil))
          have cN6 := sp _ _ cN5
          have cF6 := sp _ _ cF5
          have dr6 := dr5.same sp
          have b6 := bc.trans (b4.trans (b5.trans (But.of sp)))
          have T6 := T5.trans (Tst.of sp)
          generalize upd H5 p (.tup [.str "call", .str xa]) = H6 at ep cN6 cF6 dr6 b6 T6 ⊢
          have ga := pn_good xa (List.mem_append_left _ mxa)
          refine rest p H6 ⟨_, ep, rfl, ?_, ?_, Nat.le_refl _, cN6, cF6, T6.dxA nlq dA, dr6.mono (by omega), b6, T6.dx hnl hdc⟩
          · exact asc_tup' fun z hz => by
              simp only [List.mem_cons, List.not_mem_nil, or_false] at hz
              rcases hz with rfl | rfl
              · show ascS "call" = true
                decide +kernel
              · exact ga.1
          · show 1 + ((1 + ("call" : Str).length) + ((1 + xa.length) + 0)) ≤ 12
            rw [show ("call" : Str).length = 4 by decide +kernel]
            omega
        · have T4 := b4.fr.tst (mts drc)
          refine ⟨by show 1 ≤ sizeLine; decide, fun p hp => ?_⟩
          have sp : Same H4 (upd H4 p (.tup [.str "ask"])) := snew hp
          have ep : Dx K (upd H4 p (.tup [.str "ask"])) (.ref p) (.tuple [.str "ask"]) := .tup (SqT.of upd_same) (.cons (.str _) .nil)
          have cN6 := sp _ _ (b4 _ _ cN nN.1 nN.2.1)
          have cF6 := sp _ _ (b4 _ _ cF nF.1 nF.2.1)
          have dr6 := dr4.same sp
          have b6 := bc.trans (b4.trans (But.of sp))
          have T6 := T4.trans (Tst.of sp)
          generalize upd H4 p (.tup [.str "ask"]) = H6 at ep cN6 cF6 dr6 b6 T6 ⊢
          exact rest p H6 ⟨_, ep, rfl, by decide +kernel, by decide +kernel, Nat.le_refl _, cN6, cF6, T6.dxA nlq dA, dr6.mono (by omega), b6, T6.dx hnl hdc⟩
      case second =>
      rintro A H4 ⟨te, hte, nte, ate, wte, dte, cN4, cF4, dA4, dr4, b4, hd4⟩
      refine ⟨_, rfl, .inl ⟨rfl, _, SqL.of cF4⟩, ?_⟩
      refine (fun (rest : ∀ (z : Str) (H5 : Hp), (z ∈ pNames ++ ([("body" : Str), "pa", "set"] : List Str) ∧ Draw H5 d w' c (t + 1 + i * 5 + 4) ∧ But d w' H4 H5) → (?G2 : Str → Hp → Prop) z H5) => ?first2) ?second2
      case first2 =>
        refine ⟨_, rfl, d, w', c, t + 1 + i * 5 + 2, 9, rfl, dr4, by omega, by decide, by decide, fun j H5 j0 j9 dr5 b5 => ⟨_, _, rfl, rfl, _, rfl, ite2 (fun aj => ?_) (fun aj => ?_)⟩⟩
        rotate_left
        · refine ⟨_, rfl, by show 3 ≤ sizeLine; decide, fun l hl => ?_⟩
          have sl : Same H5 (upd H5 l (.lst [.str "body", .str "pa", .str "set"])) := snew hl
          have nl' := dr5.fresh hl
          refine ⟨d, w', c, l, t + 1 + i * 5 + 2 + 1, _, rfl, dr5.same sl, by omega, SqL.of upd_same, nl'.1, nl'.2.1, by simp, by show 3 < 1073741824; decide, fun u H6 mu dr6 b6 => ?_⟩
          obtain ⟨z, mz, rfl⟩ : ∃ z ∈ ([("body" : Str), "pa", "set"] : List Str), u = V.str z := str_mem mu
          exact rest z H6 ⟨List.mem_append_right _ mz, dr6.mono (by omega), b5.trans ((But.of sl).trans b6)⟩
        · refine ⟨_, rfl, _, rfl, N, _, _, .str xk, rfl, rfl, SqL.of (b5 _ _ cN4 nN.1 nN.2.1), by rw [Int.zero_add]; exact atI_nat (by rw [List.getElem?_map, hxk]; rfl), ?_⟩
          exact rest xk H5 ⟨List.mem_append_left _ mxk, dr5.mono (by omega), b5⟩
      case second2 =>
      rintro z H5 ⟨mz, dr5, b5⟩
      have gz := pn_good z mz
      have T5 := b5.fr.tst (mts dr4)
      refine ⟨_, rfl, by show 2 ≤ sizeLine; decide, fun q hq => ?_⟩
      have sq : Same H5 (upd H5 q (.tup [.str z, .ref A])) := snew hq
      have eq : Dx K (upd H5 q (.tup [.str z, .ref A])) (.ref q) (.tuple [.str z, te]) := .tup (SqT.of upd_same) (.cons (.str z) (.cons (dxSame sq _ _ (T5.dx nte hte)) .nil))
      have T6 := T5.trans (Tst.of sq)
      have cN6 := sq _ _ (b5 _ _ cN4 nN.1 nN.2.1)
      have cF6 := sq _ _ (b5 _ _ cF4 nF.1 nF.2.1)
      have dr6 := dr5.same sq
      have b6 := b4.trans (b5.trans (But.of sq))
      generalize upd H5 q (.tup [.str z, .ref A]) = H6 at eq T6 cN6 cF6 dr6 b6 ⊢
      have pk : PartOk (.tuple [.str z, te]) := by
        refine ⟨nl_tup' fun y hy => ?_, asc_tup' fun y hy => ?_, ?_, ?_⟩
        · simp only [List.mem_cons, List.not_mem_nil, or_false] at hy
          rcases hy with rfl | rfl
          · rfl
          · exact nte
        · simp only [List.mem_cons, List.not_mem_nil, or_false] at hy
          rcases hy with rfl | rfl
          · exact gz.1
          · exact ate
        · show 1 + ((1 + z.length) + (wt te + 0)) ≤ 30
          omega
        · show max 0 (max te.depth 0) + 1 ≤ 2
          omega
      have T7 : Tst H6 (upd H6 F (.lst (fv ++ [.ref q]))) := Tst.set cF6 trivial
      refine ⟨F, fv, _, rfl, rfl, cF6, ?_, fv ++ [.ref q], qs ++ [.tuple [.str z, te]], _, _, rfl, ?_, upd_same, ?_, ?_, ?_, ?_, b6.own hFH, (T6.trans T7).dx hnl hd4⟩
      · rw [lf, lq, sizeLine_eq]
        omega
      · rw [upd_ne nFN.symm]
        exact cN6
      · refine DxAll.app ((T6.trans T7).dxA nlq dA4) (.cons (T7.dx pk.1 eq) .nil)
      · intro y hy
        rcases List.mem_append.mp hy with hy | hy
        · exact qA y hy
        · rw [List.mem_singleton.mp hy]
          exact pk
      · rw [List.length_append, lq]
        rfl
      · exact (dr6.upd nF.1 nF.2.1 nF.2.2).mono (by show t + 1 + (i : Nat) * 5 + 4 ≤ t + 1 + ((i + 1 : Nat) : Int) * 5; omega)
    · rintro σ Hc ⟨fv, qs, v4, v5, rfl, cN, cF, dA, qA, lq, drc, bc, hdc⟩
      obtain ⟨a, xs, rfl, tt⟩ := hdc.tupD
      refine ⟨_, rfl, ?_⟩
      unfold tNoPart
      refine ⟨_, rfl, slA_to (k := 2) tt.at_ fun p1 H1' s1' e1 => ?_⟩
      have t1 : TupD K H1' p1 (xs.take 2) [w0, ns] := ⟨e1, (tt.same s1').all.take 2⟩
      refine ⟨_, rfl, F, fv, rfl, .inl ⟨SqL.of (s1' _ _ cF), fun p2 hp2 => ?_⟩⟩
      have s2' : Same H1' (upd H1' p2 (.tup fv)) := snew hp2
      have e2 : Dx K (upd H1' p2 (.tup fv)) (.ref p2) (.tuple qs) := .tup (SqT.of upd_same) (dxSameA (s1'.trans s2') _ _ dA)
      generalize upd H1' p2 (.tup fv) = H2' at s2' e2 ⊢
      have t2 := tt.same (s1'.trans s2')
      obtain ⟨v3, e3, h3⟩ := t2.get 3 rfl
      refine ⟨_, rfl, a, xs, _, v3, rfl, rfl, t2.at_, e3, by show 2 ≤ sizeLine; decide, fun p3 hp3 => ?_⟩
      have s3' : Same H2' (upd H2' p3 (.tup [.ref p2, v3])) := snew hp3
      have t3 : TupD K (upd H2' p3 (.tup [.ref p2, v3])) p3 [.ref p2, v3] [.tuple qs, bd] := ⟨SqT.of upd_same, .cons (dxSame s3' _ _ e2) (.cons (dxSame s3' _ _ h3) .nil)⟩
      have s13 := s1'.trans (s2'.trans s3')
      refine cat_d (t1.same (s2'.trans s3')) t3 (by simp) fun p4 zs H4 s4 t4 => ?_
      exact k (.ref p4) qs H4 ((drc.same (s13.trans s4)).mono (by omega)) (bc.trans (But.of (s13.trans s4))) t4.dx qA (by rw [lq]; exact hn7)
end
end Any
set_option Elab.async false
set_option linter.all false
set_option maxRecDepth 100000
set_option maxHeartbeats 4000000
/-! is_expression. -/
namespace Any
open PySem PySem.Spec PyProof.Rows L2 RT
open He (ga ma)
section
variable {P : Program} {w : World} {K : PySem.W.Frag} {mg : Str → Option Value} {base : Heap}
theorem scIsExpression : FnScope ["thing"] ["thing"] (defScope sIsExpression) := ⟨rfl, rfl, rfl, by decide +kernel, rfl, by decide +kernel, by decide +kernel⟩
def spEx (K : PySem.W.Frag) : Sp := fun vs H Q _ => ∃ v d, vs = [v] ∧ Dx K H v d ∧ wt d ≤ 100000 ∧ ∀ H', Same H H' → Q (.bl (exD d)) H'
theorem hIsExpression (D : DS K mg) (T : TF mg) (B : TW K mg) (W : TT K w mg) : Has P w K mg base CX0 "is_expression" sIsExpression ["thing"] 6 (spEx K) := by
  have hIsTree : Has P w K mg base CX0 _ _ _ 5 _ := hIsTree D T B W
  refine Has.mk0 D.aIsExpression scIsExpression (fun _ _ _ _ _ _ us hl => match us, hl with | [_], _ => rfl) (fun vs H Q E h => ?_) (fun cdv A outer s H vs Q E hr h => ?_)
  · obtain ⟨v, d, rfl, _⟩ := h
    rfl
  · obtain ⟨v, d, rfl, hd, hw, k⟩ := h
    exact ⟨_, (pss_one (ps_ret (pe_fn hIsTree (hr.mono (by decide)) (by rfl) (pa_cons (pv 0) (pa_cons pe_non pa_nil))))), ⟨_, rfl, v, d, rfl, hd, hw, k⟩⟩
end
end Any
set_option Elab.async false
set_option linter.all false
set_option maxRecDepth 100000
set_option maxHeartbeats 4000000
/-! places, with what it refuses. -/
namespace Any
open PySem PySem.Spec PyProof.Rows L2 RT
open He (ga ma)
section
variable {P : Program} {w : World} {K : PySem.W.Frag} {mg : Str → Option Value} {base : Heap}
theorem scPlaces : FnScope ["program", "kind"] ["program", "kind"] (defScope sPlaces) := ⟨rfl, rfl, rfl, by decide +kernel, rfl, by decide +kernel, by decide +kernel⟩
theorem hPlaces (D : DS K mg) (T : TF mg) (B : TW K mg) (W : TT K w mg) (A0 : TA0 K mg) (e1 : EClass K mg "BadProgram") (e2 : EClass K mg "BadKind") : Has P w K mg base (L2.CX P w) "places" sPlaces ["program", "kind"] 8 (spPlaces K) := by
  have hPlacesOf : Has P w K mg base CX0 _ _ _ 4 _ := hPlacesOf D T W A0
  have hIsProgram : Has P w K mg base CX0 _ _ _ 7 _ := hIsProgram D T B W
  have hIsWord : Has P w K mg base CX0 _ _ _ 1 _ := hIsWord D T
  refine Has.mkX D.aPlaces scPlaces (fun _ _ _ _ _ _ us hl => match us, hl with | [_, _], _ => rfl) (fun vs H Q E h => ?_) (fun cdv A outer s H vs Q E hr h => ?_)
  · obtain ⟨v, d, kv, kd, rfl, _⟩ := h
    rfl
  · obtain ⟨v, d, kv, kd, rfl, hd, hk, hw, hdep, f1, f2, k⟩ := h
    refine ⟨_, (pss_cons (ps_if (pt_not (pt_val (pe_fn hIsProgram (hr.mono (by decide)) (by rfl) (pa_cons (pv 0) pa_nil))))
        (pss_one (ps_raise rfl (takes_of rfl rfl rfl rfl) (pmk_own PySem.F.excBase_ValueError e1.x e1.g e1.k (raises_own e1.b e1.t) (by exact rfl))))
        pss_nil)
      (pss_cons (ps_if (pt_not (pt_val (pe_fn hIsWord (hr.mono (by decide)) (by rfl) (pa_cons (pv 1) (pa_cons (pe_glob (v := .ref (ga K "ASKING")) (by rfl) A0.ask rfl) pa_nil)))))
        (pss_one (ps_raise rfl (takes_of rfl rfl rfl rfl) (pmk_own PySem.F.excBase_ValueError e2.x e2.g e2.k (raises_own e2.b e2.t) (by exact rfl))))
        pss_nil)
      (PSs.nox (pss_one (ps_ret (pe_fn hPlacesOf (hr.mono (by decide)) (by rfl) (pa_cons (pv 0) (pa_cons (pv 1) pa_nil)))))))), ?_⟩
    refine ⟨_, rfl, v, d, rfl, hd, hw, hdep, fun H1 s1 => ⟨_, rfl, ?_⟩⟩
    cases c1 : progD d with
    | false => exact iteT (f1 c1 H1 s1)
    | true =>
    refine iteF ?_
    refine ⟨_, rfl, kv, kd, _, _, rfl, dxSame s1 _ _ hk, A0.askT _, _, rfl, ?_⟩
    cases c2 : Exq.oneOf ["order", "walk", "fill"] kd with
    | false => exact iteT (f2 c1 c2 H1 s1)
    | true =>
    refine iteF ?_
    obtain ⟨kn, w0, ns, ps, body, rfl, rfl, q⟩ := k c1 c2
    obtain ⟨_, _, _, _, e, ok, hw2, pl⟩ := prog_parts c1 hw hdep
    cases e
    cases hk
    exact ⟨_, rfl, _, rfl, v, kn, w0, ns, ps, body, rfl, of_decide_eq_true c2, dxSame s1 _ _ hd, nl_prog c1, ok, hw2, pl, fun p xs H' s' t' => q p xs H' (s1.trans s') t'⟩
end
end Any
set_option Elab.async false
set_option linter.all false
set_option maxRecDepth 100000
set_option maxHeartbeats 4000000
/-! Places as data: how long they are when shown. -/
namespace Any
open PySem PySem.Spec PyProof.Rows L2 RT
theorem kids_le {h : Str} {i : Nat} (m : i ∈ kidsAt h) : i ≤ 4 := by
  unfold kidsAt at m
  repeat' split at m
  all_goals simp at m
  all_goals omega
theorem nodes_path : ∀ (n : Nat) (p : List Nat) (d : PyData), ∀ e ∈ nodesN n p d, ∃ q, e.1 = p ++ q ∧ q.length ≤ n ∧ ∀ i ∈ q, i ≤ 4
  | 0, p, d, e, he => ⟨[], by rw [List.mem_singleton.mp he, List.append_nil], Nat.le_refl _, fun i hi => nomatch hi⟩
  | n + 1, p, d, e, he => by
    by_cases hd : ∃ h r, d = .tuple (.str h :: r)
    · obtain ⟨h, r, rfl⟩ := hd
      rcases List.mem_cons.mp he with rfl | he
      · exact ⟨[], (List.append_nil _).symm, Nat.zero_le _, fun i hi => nomatch hi⟩
      · obtain ⟨i, hi, m⟩ := List.mem_flatMap.mp he
        obtain ⟨q, e1, e2, e3⟩ := nodes_path n _ _ e m
        refine ⟨i :: q, ?_, by rw [List.length_cons]; omega, fun j hj => ?_⟩
        · rw [e1, List.append_assoc]
          rfl
        · rcases List.mem_cons.mp hj with rfl | hj
          · exact kids_le hi
          · exact e3 j hj
    · rw [nodesN_else fun x r e => hd ⟨x, r, e⟩] at he
      rw [List.mem_singleton.mp he]
      exact ⟨[], (List.append_nil _).symm, Nat.zero_le _, fun i hi => nomatch hi⟩
/-- a path of a place in an expression -/
theorem plP_path {kd : Str} {e : PyData} {p : List Nat} (m : p ∈ plP kd e) : p.length ≤ e.depth + 1 ∧ ∀ i ∈ p, i ≤ 4 := by
  unfold plP at m
  obtain ⟨x, hx, rfl⟩ := List.mem_map.mp m
  obtain ⟨q, e1, e2, e3⟩ := nodes_path _ _ _ x (List.mem_filter.mp hx).1
  rw [e1]
  exact ⟨e2, e3⟩
theorem nm_small {n : Str} (h : isNm n = true) : ascS n = true ∧ n.length ≤ 8 := by
  unfold isNm lenOk at h
  simp only [Bool.and_eq_true, decide_eq_true_eq] at h
  refine ⟨?_, by omega⟩
  unfold ascS
  refine List.all_eq_true.mpr fun c hc => decide_eq_true ?_
  have := List.all_eq_true.mp h.2.1 c hc
  have all : ∀ d ∈ letS.cps.toList, d < 128 := by decide +kernel
  exact all c (of_decide_eq_true this)
/-! ### shown -/
theorem showM {α : Type} {f : α → PyData} : ∀ {xs : List α}, (∀ x ∈ xs, (f x).showable = true) → PyData.showableAll (xs.map f) = true
  | [], _ => rfl
  | x :: xs, h => by
    show ((f x).showable && PyData.showableAll (xs.map f)) = true
    rw [h x (List.mem_cons_self ..), showM fun y hy => h y (List.mem_cons_of_mem _ hy), Bool.and_self]
theorem showL : ∀ {xs : List PyData}, (∀ x ∈ xs, x.showable = true) → PyData.showableAll xs = true
  | [], _ => rfl
  | x :: xs, h => by
    show (x.showable && PyData.showableAll xs) = true
    rw [h x (List.mem_cons_self ..), showL fun y hy => h y (List.mem_cons_of_mem _ hy), Bool.and_self]
theorem shownM : ∀ {xs : List PyData}, PyData.shownAll xs = xs.map PyData.shown
  | [] => rfl
  | x :: xs => by
    show x.shown :: PyData.shownAll xs = _
    rw [shownM]
    rfl
theorem piledM {n : Nat} : ∀ {ts : List Str}, (∀ t ∈ ts, t.length ≤ n) → piled ts ≤ ts.length * (n + 2)
  | [], _ => Nat.zero_le _
  | t :: ts, h => by
    have a := h t (List.mem_cons_self ..)
    have b := piledM fun u hu => h u (List.mem_cons_of_mem _ hu)
    rw [piled_cons, List.length_cons, Nat.succ_mul]
    omega
theorem tuple_le (ts : List Str) : (tupleText ts).length ≤ piled ts + 3 := by
  unfold tupleText
  rw [strLen_append, strLen_append]
  have e1 : (("(" : Str)).length = 1 := rfl
  have e2 : ((if ts.length == 1 then ",)" else ")" : String) : Str).length ≤ 2 := by
    split
    · exact Nat.le_refl _
    · decide
  have e3 : (Str.join (", " : Str) ts).length ≤ piled ts := by
    cases ts with
    | nil => decide
    | cons t r =>
      have := join_length_add (t :: r) (by simp)
      omega
  rw [e1]
  omega
theorem small_shown {n : Nat} (h : n ≤ 4) : (PyData.shown (.int (n : Nat))).length ≤ 4 ∧ (PyData.int (n : Nat)).showable = true := by
  match n, h with
  | 0, _ => decide +kernel
  | 1, _ => decide +kernel
  | 2, _ => decide +kernel
  | 3, _ => decide +kernel
  | 4, _ => decide +kernel
theorem path_shown {p : List Nat} {k : Nat} (h : p.length ≤ k) (hi : ∀ i ∈ p, i ≤ 4) : (pathD p).shown.length ≤ 6 * k + 3 ∧ (pathD p).showable = true := by
  constructor
  · show (tupleText (PyData.shownAll (p.map fun (i : Nat) => PyData.int i))).length ≤ _
    rw [shownM]
    have h1 := tuple_le ((p.map fun (i : Nat) => PyData.int i).map PyData.shown)
    have h2 := piledM (n := 4) (ts := (p.map fun (i : Nat) => PyData.int i).map PyData.shown) fun t ht => by
      obtain ⟨d, hd, rfl⟩ := List.mem_map.mp ht
      obtain ⟨i, m, rfl⟩ := List.mem_map.mp hd
      exact (small_shown (hi i m)).1
    rw [List.length_map, List.length_map] at h2
    omega
  · exact showM fun i m => (small_shown (hi i m)).2
theorem name_shown {n : Str} (h : ascS n = true) (l : n.length ≤ 8) : (PyData.shown (.str n)).length ≤ 82 ∧ (PyData.str n).showable = true := by
  constructor
  · refine Nat.le_trans (PySem.StrLaws.reprText_len _ fun c hc => Nat.lt_trans (ascS_asc h c hc) (by decide)) ?_
    show 10 * n.length + 2 ≤ 82
    omega
  · rfl
theorem place_shown {n : Str} {p : List Nat} {k : Nat} (a : ascS n = true) (l : n.length ≤ 8) (h : p.length ≤ k) (hi : ∀ i ∈ p, i ≤ 4) : (PyData.tuple [.str n, pathD p]).shown.length ≤ 6 * k + 100 ∧ (PyData.tuple [.str n, pathD p]).showable = true := by
  have s1 := name_shown a l
  have s2 := path_shown h hi
  constructor
  · show (tupleText [PyData.shown (.str n), (pathD p).shown]).length ≤ _
    have := tuple_le [PyData.shown (.str n), (pathD p).shown]
    rw [piled_cons, piled_cons, piled_nil] at this
    omega
  · exact showL fun x hx => by
      simp only [List.mem_cons, List.not_mem_nil, or_false] at hx
      rcases hx with rfl | rfl
      · exact s1.2
      · exact s2.2
/-- what is known of a drawn program's places -/
structure PlOk (ds : List PyData) : Prop where
  sh : (PyData.tuple ds).showable = true
  dp : (PyData.tuple ds).depth ≤ 60
  ln : (PyData.tuple ds).shown.length ≤ sizeLine
  as_ : asc (.tuple ds) = true
theorem depth_path (p : List Nat) : (pathD p).depth ≤ 1 := by
  show PyData.depthAll _ + 1 ≤ 1
  have : PyData.depthAll (p.map fun (i : Nat) => PyData.int i) ≤ 0 := depthAll_of fun x hx => by
    obtain ⟨i, _, rfl⟩ := List.mem_map.mp hx
    exact Nat.le_refl _
  omega
theorem pl_ok {kd : Str} {ds : List PyData} (hn : ∀ x ∈ ds, ∃ n e, x = .tuple [.str n, e] ∧ exD e = true ∧ ascS n = true ∧ n.length ≤ 8 ∧ e.depth ≤ 20) (hw : wtA ds ≤ 3000) : PlOk (plL kd ds) := by
  have len := plL_len (kd := kd) fun x hx => by
    obtain ⟨n, e, e1, e2, _⟩ := hn x hx
    exact ⟨n, e, e1, e2⟩
  have each : ∀ z ∈ plL kd ds, ∃ n p, z = .tuple [.str n, pathD p] ∧ ascS n = true ∧ n.length ≤ 8 ∧ p.length ≤ 21 ∧ ∀ i ∈ p, i ≤ 4 := fun z hz => by
    obtain ⟨x, hx, hz⟩ := List.mem_flatMap.mp hz
    obtain ⟨n, e, rfl, ex, a, l, dep⟩ := hn x hx
    obtain ⟨p, hp, rfl⟩ := List.mem_map.mp hz
    obtain ⟨q1, q2⟩ := plP_path hp
    exact ⟨n, p, rfl, a, l, by omega, q2⟩
  refine ⟨showL fun z hz => ?_, ?_, ?_, asc_tup' fun z hz => ?_⟩
  · obtain ⟨n, p, rfl, a, l, h, hi⟩ := each z hz
    exact (place_shown a l h hi).2
  · show PyData.depthAll _ + 1 ≤ 60
    have : PyData.depthAll (plL kd ds) ≤ 2 := depthAll_of fun z hz => by
      obtain ⟨n, p, rfl, _⟩ := each z hz
      have := depth_path p
      show max 0 (max (pathD p).depth 0) + 1 ≤ 2
      omega
    omega
  · show (tupleText (PyData.shownAll (plL kd ds))).length ≤ _
    rw [shownM, sizeLine_eq]
    have h1 := tuple_le ((plL kd ds).map PyData.shown)
    have h2 := piledM (n := 226) (ts := (plL kd ds).map PyData.shown) fun t ht => by
      obtain ⟨z, hz, rfl⟩ := List.mem_map.mp ht
      obtain ⟨n, p, rfl, a, l, h, hi⟩ := each z hz
      exact (place_shown a l h hi).1
    rw [List.length_map] at h2
    have h3 : (plL kd ds).length * (226 + 2) ≤ 3000 * (226 + 2) := Nat.mul_le_mul_right _ (by omega)
    omega
  · obtain ⟨n, p, rfl, a, l, h, hi⟩ := each z hz
    refine asc_tup' fun x hx => ?_
    simp only [List.mem_cons, List.not_mem_nil, or_false] at hx
    rcases hx with rfl | rfl
    · exact a
    · exact asc_tup' fun y hy => by
        obtain ⟨i, _, rfl⟩ := List.mem_map.mp hy
        rfl
end Any
set_option Elab.async false
set_option linter.all false
set_option maxRecDepth 100000
set_option maxHeartbeats 4000000
/-! Tables of code objects along the law's road; calls by keywords; a def whose code object is known. -/
namespace Any
open PySem PySem.Spec PyProof.Rows L2 RT LamX
open He (ga ma)
/-! ### what stays when a lambda is made -/
theorem extn_sqT {K : PySem.W.Frag} {H H' : Hp} (e : ExtN H H') {a : Addr} {xs : List V} (h : SqT K H a xs) : SqT K H' a xs := by
  rcases h with (h | ⟨o, h⟩) | h
  · exact .inl (.inl (e _ _ h fun ps z => by cases z))
  · exact .inl (.inr ⟨o, e _ _ h fun ps z => by cases z⟩)
  · exact .inr h
theorem extn_sqL {K : PySem.W.Frag} {H H' : Hp} (e : ExtN H H') {a : Addr} {xs : List V} (h : SqL K H a xs) : SqL K H' a xs := by
  rcases h with (h | ⟨o, h⟩) | h
  · exact .inl (.inl (e _ _ h fun ps z => by cases z))
  · exact .inl (.inr ⟨o, e _ _ h fun ps z => by cases z⟩)
  · exact .inr h
mutual
theorem extn_dx {K : PySem.W.Frag} {H H' : Hp} (s : ExtN H H') : ∀ (d : PyData) (v : V), Dx K H v d → Dx K H' v d
  | .none, _, .non => .non
  | .bool _, _, .bl b => .bl b
  | .int _, _, .int i => .int i
  | .str _, _, .str x => .str x
  | .list ds, _, .lst e r => .lst (extn_sqL s e) (extn_dxA s ds _ r)
  | .tuple ds, _, .tup e r => .tup (extn_sqT s e) (extn_dxA s ds _ r)
  | .dict ds, _, .dct e r => .dct (s _ _ e fun ps z => by cases z) (extn_dxK s ds _ r)
theorem extn_dxA {K : PySem.W.Frag} {H H' : Hp} (s : ExtN H H') : ∀ (ds : List PyData) (vs : List V), DxAll K H vs ds → DxAll K H' vs ds
  | [], _, .nil => .nil
  | d :: ds, _, .cons h r => .cons (extn_dx s d _ h) (extn_dxA s ds _ r)
theorem extn_dxK {K : PySem.W.Frag} {H H' : Hp} (s : ExtN H H') : ∀ (ds : List (PyData × PyData)) (vs : List (Key × V)), DxKv K H vs ds → DxKv K H' vs ds
  | [], _, .nil => .nil
  | (_, d) :: ds, _, .cons h r => .cons (extn_dx s d _ h) (extn_dxK s ds _ r)
end
theorem extn_hid {S : List Addr} {H H' : Hp} (e : ExtN H H') : ExtN (hidS S H) (hidS S H') := fun b o h n => by
  by_cases hb : b ∈ S
  · rw [hid_in hb] at h
    cases h
  · rw [hid_out hb] at h ⊢
    exact e b o h n
theorem extn_draw {H H' : Hp} {d w c : Addr} {t : Int} (e : ExtN H H') (D : Draw H d w c t) : Draw H' d w c t := by
  obtain ⟨ws, cs, r, u, h1, h2, h3, k⟩ := D
  exact ⟨ws, cs, r, u, e _ _ h1 (fun ps z => by cases z), e _ _ h2 (fun ps z => by cases z), e _ _ h3 (fun ps z => by cases z), k⟩
theorem tabs_but {T : List (Addr × Str)} {H H' : Hp} {d w c : Addr} {t : Int} (D : Draw H d w c t) (b : But d w H H') (h : Tabs T H) : Tabs T H' := fun p hp => by
  obtain ⟨ps, e, g, k⟩ := h p hp
  obtain ⟨ws, cs, r, u, h1, h2, _⟩ := D
  refine ⟨ps, b _ _ e (fun z => ?_) (fun z => ?_), g, fun pos cv m => ?_⟩
  · rw [z, h1] at e
    cases e
  · rw [z, h2] at e
    cases e
  · obtain ⟨c', rfl, hc⟩ := k pos cv m
    refine ⟨c', rfl, b _ _ hc (fun z => ?_) (fun z => ?_)⟩
    · rw [z, h1] at hc
      unfold CodeO at hc
      cases hc
    · rw [z, h2] at hc
      unfold CodeO at hc
      cases hc
theorem tabs_same {T : List (Addr × Str)} {H H' : Hp} (s : Same H H') (h : Tabs T H) : Tabs T H' := h.ext s
/-! ### calls by keywords alone -/
section
variable {X : Cx} {CX : CXT} {nm : Str} {st : Stmt} {ps ks : List Str} {k : Nat} {sp : Sp} {E : XK} {p pos : Pos} {kws : List Keyword} {tk : TA}
theorem Fun.byKw {K : PySem.W.Frag} {x q : Str} {st : Stmt} {f : Addr} {fd : FuncData} {ps ks : List Str} (F : Fun K x q st f fd)
    (h : ∀ (kV doc pm : Value) (an : Option Addr) (cdv ct : Value) (ws : List Value), ws.length = ps.length → bindArgs (PySem.W.fnOf x q (defArgs st) (defBody st) (defScope st) .none kV doc pm an cdv ct) ⟨[], ks.zip ws⟩ = pure (ps.zip ws)) (s : Shared) (ws : List Value) (hl : ws.length = ps.length) : BindsTo s fd ⟨[], ks.zip ws⟩ (ps.zip ws) := by
  obtain ⟨oc, od, kV, doc, pm, an, cdv, ct, osl, rfl, lk, hcd⟩ := F.ex
  exact .of_eq (h kV doc pm an cdv ct ws hl)
theorem pe_fnK (h : Has X.prog X.w X.K X.mg X.base CX0 nm st ps k sp)
    (hb : ∀ (kV doc pm : Value) (an : Option Addr) (cdv ct : Value) (ws : List Value), ws.length = ps.length → bindArgs (PySem.W.fnOf nm nm (defArgs st) (defBody st) (defScope st) .none kV doc pm an cdv ct) ⟨[], ks.zip ws⟩ = pure (ps.zip ws))
    (hr : Room k X.A) (hg : Gl X nm)
    (hkw : PK X kws tk) (hall : (backToKw pos (keywordEach kws X.env)).all (·.1.isSome) = true := by rfl) (hks : (backToKw pos (keywordEach kws X.env)).filterMap (·.1) = ks := by rfl)
    (hdb : (nm == ("__debug__" : Str)) = false := by decide)
    (hpl : ((backTo pos (starEach [] X.env)).any (·.1) || (backToKw pos (keywordEach kws X.env)).any (·.1.isNone)) = false := by rfl) : PE X (.Call (.Name nm p) [] kws pos) (tCall sp [] E0 tk) := by
  obtain ⟨⟨fd, F, G, b⟩, g, kp⟩ := h
  exact pe_callK0 G hr hg g kp (Fun.byKw F hb) pass0 hkw hall hks hdb hpl
/-- the two values turned about -/
def tTurn (t : TA) : TA := fun σ H Q => t σ H fun xs H1 => ∃ a b, xs = [a, b] ∧ Q [b, a] H1
/-- f(k2 = b, k1 = a) of a def with the parameters k1, k2 -/
theorem pe_fnK2 {k1 k2 : Str} (h : Has X.prog X.w X.K X.mg X.base CX nm st [k1, k2] k sp)
    (hb : ∀ (kV doc pm : Value) (an : Option Addr) (cdv ct : Value) (a b : Value), bindArgs (PySem.W.fnOf nm nm (defArgs st) (defBody st) (defScope st) .none kV doc pm an cdv ct) ⟨[], [(k2, a), (k1, b)]⟩ = pure [(k1, b), (k2, a)])
    (hr : Room k X.A) (hg : Gl X nm) (hx : Passes CX X E)
    (hkw : PK X kws tk) (hall : (backToKw pos (keywordEach kws X.env)).all (·.1.isSome) = true := by rfl) (hks : (backToKw pos (keywordEach kws X.env)).filterMap (·.1) = [k2, k1] := by rfl)
    (hdb : (nm == ("__debug__" : Str)) = false := by decide)
    (hpl : ((backTo pos (starEach [] X.env)).any (·.1) || (backToKw pos (keywordEach kws X.env)).any (·.1.isNone)) = false := by rfl) : PE X (.Call (.Name nm p) [] kws pos) (tCall sp [] E (tTurn tk)) := by
  obtain ⟨⟨fd, F, G, b⟩, g, kp⟩ := h
  have bind : ∀ (s : Shared) (u v : Value), BindsTo s fd ⟨[], [(k2, u), (k1, v)]⟩ [(k1, v), (k2, u)] := fun s u v => by
    obtain ⟨oc, od, kV, doc, pm, an, cdv, ct, osl, rfl, lk, hcd⟩ := F.ex
    exact .of_eq (hb kV doc pm an cdv ct u v)
  refine ⟨fun pins s σ H Q I hq => ?_⟩
  refine wpAny_Call_Name_kw (ld_glob I hg g ?_ hdb)
  refine PySem.W.callWith_KW0 (h₀ := X.base) I.ok.mod.kin kp hall (thn (hkw.run pos pins s σ H _ I hq) fun ws s2 got => ?_) hpl
  obtain ⟨zs, H2, I2, rz, y, z, rfl, q2⟩ := got
  refine ⟨I2.kIn, ?_⟩
  rw [hks]
  obtain ⟨u, v, rfl, ru, rv⟩ := vals2 rz
  refine wpAny_call (codeAny_mono (G.run X.A X.stack s2 H2 ⟨[], [(k2, u), (k1, v)]⟩ [v, u] [z, y] Q E hr I2.env0 (bind s2 u v) (.cons rv (.cons ru .nil)) q2) fun r s' e => ?_)
  match r, e with
  | .error _, e => exact hx pins σ H2 s2 _ s' I2 e
  | .ok (.ret _), e => exact I2.after e
end
/-! ### a def whose code object is known, nothing being under way -/
section
variable {P : Program} {w : World} {K : PySem.W.Frag} {mg : Str → Option Value} {base : Heap} {CX : CXT} {k : Nat} {f : Addr} {fd : FuncData} {ps : List Str} {sp : Sp}
theorem okC {x q : Str} {st : Stmt} {N : List Str} (F : Fun K x q st f fd) (S : FnScope N ps (defScope st)) (len : ∀ vs H Q E, sp vs H Q E → vs.length = ps.length)
    (body : ∀ (A : Around) (out : List Env) (s : Shared) (H : Hp) (vs : List V) (Q : VK) (E : XK), Clr (A.deeper (envOfC q (defScope st) s.heap.objs.size f fd.code)) → Room k (A.deeper (envOfC q (defScope st) s.heap.objs.size f fd.code)) → sp vs H Q E →
      ∃ t, PSs (cxOf CX P w K mg base N q (defScope st) f fd.code A out s H E).nox (defBody st) t ∧ t { nx := fun _ H' => Q .non H', rt := Q } (start N vs) H) : FnG P w K mg base CX (k + 1) f fd ps sp := by
  obtain ⟨oc, od, kV, doc, pm, an, cdv, ct, osl, e, lk, hcd⟩ := F.ex
  have hc : fd.code = cdv := by rw [e]
  rw [hc] at body
  clear hc
  subst e
  refine ⟨len, fun A out s H args us vs Q E cl hr e0 hb r hsp => ?_⟩
  have sub : ∀ b o, base.get? b = some o → s.heap.get? b = some o := fun b o z => (e0.bs b o z).1
  have KX : K.In s.heap := e0.mod.kin.keeps sub
  have hl := len _ _ _ _ hsp
  have par : ∀ y ∈ ps.zip us, (defScope st).names.lookup y.1 = some .local ∨ ((defScope st).names.lookup y.1 = some .cell ∧ ((cellsFrom (s.heap.objs.size + 1) (defScope st).names []).lookup y.1).isSome = true) := fun ⟨n, v⟩ hy => (S.par n (List.of_mem_zip hy).1).imp id fun z => ⟨z, PySem.W.cellsFrom_some _ _ _ (.inl z)⟩
  refine codeAny_call_function hr.depth (KX _ _ lk) rfl S.co S.gen rfl (PySem.W.codeRec_of KX hcd) (hb _ _ _ _ (wpAny_newFunctionEnv_cells S.kind par fun env he s1 x => ?_))
  subst he
  refine ⟨e0.mod.nolimit.keeps fun b o z => x.toInCall.keep b o (sub b o z), codeAny_func ?_⟩
  obtain ⟨t, ht, q⟩ := body A out s H vs Q E (cl.deep _) (hr.deeper _) hsp
  refine wpAny_mono (ht.nox.run [] s1 (start N vs) H _ (inv_start S hr.hd e0 hl r x) q) (fun fl s' z => ?_) fun _ _ z => z
  cases fl with
  | next =>
    obtain ⟨σ', H', J, q⟩ := z
    exact ⟨V.non, H', J.os, J.bare, J.base, J.hok, rfl, q⟩
  | ret u =>
    obtain ⟨v, σ', H', J, rv, q⟩ := z
    exact ⟨v, H', J.os, J.bare, J.base, J.hok, rv, q⟩
  | brk => exact z.elim fun _ z => z.elim fun _ z => z.2.elim
  | cont => exact z.elim fun _ z => z.elim fun _ z => z.2.elim
end
end Any
set_option Elab.async false
set_option linter.all false
set_option maxRecDepth 100000
set_option maxHeartbeats 4000000
/-! A drawn program's parts. -/
namespace Any
open PySem PySem.Spec PyProof.Rows L2 RT
structure PAll (vs : List Str) (ps : List PyData) (bd : PyData) : Prop where
  prog : progD (.tuple [.str "program", .tuple (vs.map PyData.str), .tuple ps, bd]) = true
  nm : ∀ n ∈ vs, ascS n = true ∧ n.length ≤ 8
  vl : vs.length ≤ 4
  pl : ps.length ≤ 6
  each : ∀ x ∈ partsL ps bd, ∃ n e, x = .tuple [.str n, e] ∧ exD e = true ∧ ascS n = true ∧ n.length ≤ 8 ∧ e.depth ≤ 20
  wt : wtA (partsL ps bd) ≤ 3000
  ok : partsOk (partsL ps bd)
  as_ : asc (.tuple [.str "program", .tuple (vs.map PyData.str), .tuple ps, bd]) = true
  wtP : Any.wt (.tuple [.str "program", .tuple (vs.map PyData.str), .tuple ps, bd]) ≤ 3000
  dep : (PyData.tuple [.str "program", .tuple (vs.map PyData.str), .tuple ps, bd]).depth ≤ 20
theorem prog_all {dta : PyData} (pg : PGood dta) : ∃ vs ps bd, dta = .tuple [.str "program", .tuple (vs.map PyData.str), .tuple ps, bd] ∧ PAll vs ps bd := by
  obtain ⟨h, as_, hw, hd⟩ := pg
  have h0 := h
  unfold progD at h
  split at h
  · rename_i w0 ns ps bd
    simp only [Bool.and_eq_true, decide_eq_true_eq] at h
    obtain ⟨rfl, h2, h3, h4⟩ := h
    rw [varsD_tup] at h2
    rw [partsD_tup] at h3
    simp only [Bool.and_eq_true, decide_eq_true_eq] at h2 h3
    have en := nms_map h2.2.1
    have vl : (strsD ns).length = ns.length := by
      have := congrArg List.length en
      rw [List.length_map] at this
      exact this.symm
    have nm : ∀ n ∈ strsD ns, ascS n = true ∧ n.length ≤ 8 := fun n hn => by
      have m : PyData.str n ∈ ns := by
        rw [en]
        exact List.mem_map.mpr ⟨n, hn, rfl⟩
      have := List.all_eq_true.mp h2.2.1 _ m
      obtain ⟨z, e, hz⟩ := nmD_str this
      cases e
      exact nm_small hz
    obtain ⟨w1, n1, p1, b1, e, ok, _, _⟩ := prog_parts h0 (by omega) (by omega)
    cases e
    have wt1 : wtA (partsL ps bd) ≤ 3000 := by
      unfold partsL
      rw [wtA_app]
      simp only [Any.wt, wtA] at hw ⊢
      have : ("body" : Str).length = 4 := by decide +kernel
      have : ("program" : Str).length = 7 := by decide +kernel
      omega
    have each : ∀ x ∈ partsL ps bd, ∃ n e, x = .tuple [.str n, e] ∧ exD e = true ∧ ascS n = true ∧ n.length ≤ 8 ∧ e.depth ≤ 20 := fun x hx => by
      obtain ⟨n, e, rfl, ex⟩ := progL_each h4 x hx
      have hb7 := Exq.depth_mem (xs := [PyData.str "program", .tuple ns, .tuple ps, bd]) (x := bd) (by simp)
      have hp7 := Exq.depth_mem (xs := [PyData.str "program", .tuple ns, .tuple ps, bd]) (x := .tuple ps) (by simp)
      rw [depth_tup] at hd
      have h6 : (PyData.tuple ps).depth = PyData.depthAll ps + 1 := rfl
      unfold partsL at hx
      rcases List.mem_append.mp hx with m | m
      · obtain ⟨n', e', q, hn⟩ := pairD_of (List.all_eq_true.mp h3.2.1 _ m)
        cases q
        have q1 := Exq.depth_mem m
        have q2 := Exq.depth_mem (xs := [PyData.str n, e]) (x := e) (by simp)
        rw [depth_tup] at q1
        exact ⟨n, e, rfl, ex, (nm_small hn).1, (nm_small hn).2, by omega⟩
      · cases List.mem_singleton.mp m
        exact ⟨_, _, rfl, ex, by decide +kernel, by decide +kernel, by omega⟩
    refine ⟨strsD ns, ps, bd, by rw [← en], ?_⟩
    exact {
      prog := by rw [← en]; exact h0
      nm := nm
      vl := by omega
      pl := by omega
      each := each
      wt := wt1
      ok := ok
      as_ := by rw [← en]; exact as_
      wtP := by rw [← en]; exact hw
      dep := by rw [← en]; exact hd }
  · cases h
/-- the names of the parts -/
def hdN : PyData → Str
  | .tuple (.str n :: _) => n
  | _ => "" 
end Any
set_option Elab.async false
set_option linter.all false
set_option maxRecDepth 100000
set_option maxHeartbeats 8000000
/-! The law. -/
namespace Any
open PySem PySem.Spec PyProof.Rows L2 RT LamX
open He (ga ma)
/-- the qualified name of the law's lambdas -/
abbrev lamQ : Str := (envOfC "law" (defScope sLaw) 0 0 .none).qual ++ "<lambda>"
def lapBody : List Stmt := match defBody sLaw with
  | [_, .For _ _ b _ _, _] => match b.getLast? with
    | some (.For _ _ b2 _ _) => b2
    | _ => []
  | _ => []
def lam1 : Expr := match (lapBody[6]? : Option Stmt) with
  | some (.Assign _ (.List (e :: _) _) _) => e
  | _ => .List [] ⟨0, 0, 0, 0⟩
def lam2 : Expr := match (lapBody[8]? : Option Stmt) with
  | some (.If (.UnaryOp _ (.Call _ (.Call _ (e :: _) _ _ :: _) _ _) _) _ _ _) => e
  | _ => .List [] ⟨0, 0, 0, 0⟩
def lamA : Expr → Arguments
  | .Lambda a _ _ _ => a
  | _ => ⟨[], [], none, [], [], none, []⟩
def lamB : Expr → Expr
  | .Lambda _ b _ _ => b
  | e => e
def lamS : Expr → Scope
  | .Lambda _ _ s _ => s
  | _ => defScope sLaw
def spLaw (K : PySem.W.Frag) (Pt : Addr) : Sp := fun vs H Q _ => ∃ (a : Addr) (ns : List Int), vs = [.ref a] ∧ SqL K H a (ns.map V.int) ∧ ns.length ≤ 63 ∧ Tabs [(Pt, lamQ)] H ∧ ∀ H', Q (.bl true) H'
theorem kind_in {kn : Str} (h : kn ∈ kinds3) : kindD (.str kn) = true := by
  unfold kinds3 at h
  simp only [List.mem_cons, List.not_mem_nil, or_false] at h
  rcases h with rfl | rfl | rfl <;> decide +kernel
theorem wtA_each {n : Nat} : ∀ {ds : List PyData}, (∀ d ∈ ds, wt d ≤ n) → wtA ds ≤ n * ds.length
  | [], _ => Nat.zero_le _
  | d :: ds, h => by
    have a := h d (List.mem_cons_self ..)
    have b := wtA_each fun x hx => h x (List.mem_cons_of_mem _ hx)
    show wt d + wtA ds ≤ n * (ds.length + 1)
    rw [Nat.mul_succ]
    omega
/-- what the law alone asks of the written part -/
structure TLw (K : PySem.W.Frag) : Prop where
  sys : SysD K
  x1 : PySem.W.exmOne K (.ref (ga K "BadProgram")) (.ref (ga K "MakerError")) = some true
  x2 : PySem.W.exmOne K (.ref (ga K "BadKind")) (.ref (ga K "MakerError")) = some true
  r1 : ErrC K (ga K "BadProgram")
  r2 : ErrC K (ga K "BadKind")
  k1 : PySem.W.kitOne K (.ref (ga K "BadProgram")) (.ref (ga K "BadProgram")) = some true
  k2 : PySem.W.kitOne K (.ref (ga K "BadKind")) (.ref (ga K "BadKind")) = some true
section
variable {P : Program} {w : World} {K : PySem.W.Frag} {mg : Str → Option Value} {base : Heap}
theorem scLaw : FnScope ["script", "draw", "turn", "program", "names", "kind", "due", "lap", "thing", "e", "odd", "works", "part"] ["script"] (defScope sLaw) := ⟨rfl, rfl, rfl, by decide +kernel, rfl, by decide +kernel, by decide +kernel⟩
theorem ok_law {fd : FuncData} {c0 Pt : Addr} (F : Fun K "law" "law" sLaw (ga K "law") fd) (hc0 : fd.code = .ref c0) (TB : TabB base mg c0 Pt) (D : DS K mg) (T : TF mg) (B : TW K mg) (W : TT K w mg) (A0 : TA0 K mg) (e1 : EClass K mg "BadProgram") (e2 : EClass K mg "BadKind") (U : TLw K) :
    FnG P w K mg base CX0 69 (ga K "law") fd ["script"] (spLaw K Pt) := by
  have hLawBegun : Has P w K mg base CX0 _ _ _ 1 _ := hLawBegun D T
  have hLawProgram : Has P w K mg base CX0 _ _ _ 20 _ := hLawProgram D T
  have hLawBent : Has P w K mg base CX0 _ _ _ 66 _ := hLawBent D T
  have hLawPick : Has P w K mg base CX0 _ _ _ 3 _ := hLawPick D T
  have hLawTake : Has P w K mg base CX0 _ _ _ 2 _ := hLawTake D T
  have hLawPlaces : Has P w K mg base CX0 _ _ _ 67 _ := hLawPlaces D T
  have hIsProgram : Has P w K mg base CX0 _ _ _ 7 _ := hIsProgram D T B W
  have hIsExpression : Has P w K mg base CX0 _ _ _ 6 _ := hIsExpression D T B W
  have hLawMoreParts : Has P w K mg base CX0 _ _ _ 4 _ := hLawMore D T
  have hPlaces : Has P w K mg base (L2.CX P w) _ _ _ 8 _ := hPlaces D T B W A0 e1 e2
  have hLawIsProgram : Has P w K mg base CX0 _ _ _ 68 _ := hLawIsProgram D T
  have hLawIsExpression : Has P w K mg base CX0 _ _ _ 67 _ := hLawIsExpression D T 64
  refine okC F scLaw (fun vs H Q E h => ?_) (fun A outer s H vs Q E cl hr h => ?_)
  · obtain ⟨a, ns, rfl, _⟩ := h
    rfl
  · obtain ⟨a, ns, rfl, hS, hl, hT, k⟩ := h
    refine ⟨_, (pss_cons (ps_set (i := 1) scLaw.nd rfl (Or.inl rfl) (pe_fn hLawBegun (hr.mono (by decide)) (by rfl) (pa_cons (pv 0) pa_nil)))
      (pss_cons (ps_for PassesOwn.never rfl (pi_range1 (by rfl) T.range (pa_cons (pe_op op_add pe_int (pe_callB (call_min2 rfl) (by rfl) T.min (by decide +kernel) (pa_cons (pe_callB call_len_seq (by rfl) T.len PySem.boot_len (pa_cons (pv 0) pa_nil)) (pa_cons pe_int pa_nil)))) pa_nil)) (pg_name (i := 2) scLaw.nd rfl (Or.inl rfl))
        (pss_cons (ps_set (i := 3) scLaw.nd rfl (Or.inr rfl) (pe_fn hLawProgram (hr.mono (by decide)) (by rfl) (pa_cons (pv 1) (pa_cons pe_int (pa_cons (pe_cmpR op_eq (pe_fn hLawTake (hr.mono (by decide)) (by rfl) (pa_cons (pv 1) (pa_cons pe_int pa_nil))) pe_int (nomark _)) pa_nil)))))
        (pss_cons (ps_set (i := 4) scLaw.nd rfl (Or.inl rfl) (pe_op op_cat (pe_callTy call_list_of (by rfl) T.list (by decide +kernel) (pa_cons (pe_ix ix_tup (pv 3) pe_int (fun _ _ => rfl)) pa_nil)) (pe_lc (own := [("part", 12)]) (g := (gName 12)) rfl scLaw.nd (pi_tup (pe_ix ix_tup (pv 3) pe_int (fun _ _ => rfl))) (blkOk_by (own := [("part", 12)]) (N := ["script", "draw", "turn", "program", "names", "kind", "due", "lap", "thing", "e", "odd", "works", "part"]) (sc := defScope sLaw) (by decide +kernel)) (fun _ _ _ _ _ => (pg_name (i := 12) scLaw.nd rfl (Or.inl rfl))) (fun _ _ _ _ _ => pts_nil) (fun _ _ _ _ _ => (pe_ix (ix_tupK (K := K) rfl) (pv 12) pe_int (fun _ _ => rfl))))))
        (pss_cons (ps_for PassesOwn.never rfl (pi_list (pe_lst (pa_cons pe_str (pa_cons pe_str (pa_cons pe_str pa_nil))))) (pg_name (i := 5) scLaw.nd rfl (Or.inl rfl))
          (pss_cons (ps_set (i := 6) scLaw.nd rfl (Or.inl rfl) (pe_callTy call_tuple_of (by rfl) T.tuple (by decide +kernel) (pa_cons (pe_fn hLawPlaces (hr.mono (by decide)) (by rfl) (pa_cons (pv 3) (pa_cons (pv 5) pa_nil))) pa_nil)))
          (pss_one (ps_if (PW.pt (pw_or (pt_cmpR op_ne (pe_callB (call_repr U.sys cl hr.units) (by rfl) T.repr (by decide +kernel) (pa_cons (pe_fnX hPlaces (hr.mono (by decide)) (by rfl) passL (pa_cons (pv 3) (pa_cons (pv 5) pa_nil))) pa_nil)) (pe_callB (call_repr U.sys cl hr.units) (by rfl) T.repr (by decide +kernel) (pa_cons (pv 6) pa_nil)) (nomark _)) (pw_or1 (pt_cmpR (op_neD hr.units) (pe_fnK2 hPlaces (fun _ _ _ _ _ _ _ _ => rfl) (hr.mono (by decide)) (by rfl) passL (pk_cons (pv 5) (pk_cons (pv 3) pk_nil))) (pv 6) (nomark _)))))
            (pss_one (ps_ret pe_bl))
            pss_nil))))
        (pss_cons (ps_if (PW.pt (pw_or (pt_cmpR op_isnot_bl (pe_fn hIsProgram (hr.mono (by decide)) (by rfl) (pa_cons (pv 3) pa_nil)) pe_bl (nomark _)) (pw_or (pt_cmpR op_isnot_bl (pe_fnK (ks := ["thing"]) hIsProgram (fun _ _ _ _ _ _ ws hl => match ws, hl with | [_], _ => rfl) (hr.mono (by decide)) (by rfl) (pk_cons (pv 3) pk_nil)) pe_bl (nomark _)) (pw_or1 (pt_cmpR op_isnot_bl (pe_fnK (ks := ["thing"]) hIsExpression (fun _ _ _ _ _ _ ws hl => match ws, hl with | [_], _ => rfl) (hr.mono (by decide)) (by rfl) (pk_cons (pe_ix ix_tup (pv 3) pe_int (fun _ _ => rfl)) pk_nil)) pe_bl (nomark _))))))
          (pss_one (ps_ret pe_bl))
          pss_nil)
        (pss_one (ps_for PassesOwn.never rfl (pi_range1 (by rfl) T.range (pa_cons pe_int pa_nil)) (pg_name (i := 7) scLaw.nd rfl (Or.inl rfl))
          (pss_cons (ps_set (i := 8) scLaw.nd rfl (Or.inr rfl) (pe_fn hLawBent (hr.mono (by decide)) (by rfl) (pa_cons (pv 1) (pa_cons (pv 3) (pa_cons (pv 4) pa_nil)))))
          (pss_cons (ps_set (i := 8) scLaw.nd rfl (Or.inr rfl) (pe_ifExp (pt_cmpR op_lt (pv 7) pe_int (nomark _)) (pv 8) (pe_fn hLawBent (hr.mono (by decide)) (by rfl) (pa_cons (pv 1) (pa_cons (pv 8) (pa_cons (pv 4) pa_nil))))))
          (pss_cons (ps_set (i := 8) scLaw.nd rfl (Or.inr rfl) (pe_ifExp (pt_cmpR op_ne (pv 7) pe_int (nomark _)) (pv 8) (pe_fn hLawMoreParts (hr.mono (by decide)) (by rfl) (pa_cons (pv 1) (pa_cons (pv 3) pa_nil)))))
          (pss_cons (ps_set (i := 9) scLaw.nd rfl (Or.inl rfl) (pe_fn hLawBent (hr.mono (by decide)) (by rfl) (pa_cons (pv 1) (pa_cons (pe_ix ix_tup (pv 3) pe_int (fun _ _ => rfl)) (pa_cons (pv 4) pa_nil)))))
          (pss_cons (ps_if (PW.pt (pw_or (pt_cmpR op_ne (pe_fn hIsProgram (hr.mono (by decide)) (by rfl) (pa_cons (pv 8) pa_nil)) (pe_fn hLawIsProgram (hr.mono (by decide)) (by rfl) (pa_cons (pv 8) pa_nil)) (nomark _)) (pw_or1 (pt_cmpR op_ne (pe_fn hIsExpression (hr.mono (by decide)) (by rfl) (pa_cons (pv 9) pa_nil)) (pe_fn hLawIsExpression (hr.mono (by decide)) (by rfl) (pa_cons (pv 9) pa_nil)) (nomark _)))))
            (pss_one (ps_ret pe_bl))
            pss_nil)
          (pss_cons (ps_set (i := 10) scLaw.nd rfl (Or.inr rfl) (pe_fn hLawPick (hr.mono (by decide)) (by rfl) (pa_cons (pv 1) (pa_cons (pe_lst (pa_cons pe_non (pa_cons pe_int (pa_cons pe_str (pa_cons pe_str (pa_cons (pe_tup (pa_cons pe_str pa_nil)) (pa_cons (pe_lst pa_nil) (pa_cons pe_str (pa_cons pe_int pa_nil))))))))) pa_nil))))
          (pss_cons (ps_set (i := 11) scLaw.nd rfl (Or.inl rfl) (pe_lst (pa_cons (pe_lam (T := [(Pt, lamQ)]) TB hc0 (List.mem_singleton.mpr rfl) (fun p hp _ => by rw [List.mem_singleton.mp hp]; rfl) (lamS_by (by show lamSB (defScope sLaw) _ = true; decide +kernel)) rfl) pa_nil)))
          (pss_cons (ps_if (PW.pt (pw_and (pt_not (pt_val (pe_fn hLawIsProgram (hr.mono (by decide)) (by rfl) (pa_cons (pv 8) pa_nil)))) (pw_and1 (pt_not (pt_val (pe_callB call_isEr (by rfl) T.isinstance (by decide +kernel) (pa_cons (pe_errcall (params := lamA lam1) (body := lamB lam1) (scope := lamS lam1) (k := 8) D.aLawError D.cMakerError (by rfl) (pa_cons (pe_ix ix_list (pv 11) pe_int (fun _ _ => rfl)) pa_nil) (hr.mono (by decide)) (lamS_by (by show lamSB (defScope sLaw) _ = true; decide +kernel)) (fun _ _ _ _ _ => rfl) (fun E f c' A' out' s' H' room' => pe_fnX hPlaces room' (by rfl) (passes_call (takes_of rfl rfl rfl rfl) (fun _ _ _ _ h => h)) (pa_cons (pv 8) (pa_cons (pv 10) pa_nil)))) (pa_cons (pe_glob (v := .ref (ga K "BadProgram")) (by rfl) D.cBadProgram rfl) pa_nil))))))))
            (pss_one (ps_ret pe_bl))
            pss_nil)
          (pss_one (ps_if (pt_not (pt_val (pe_callB call_isEr (by rfl) T.isinstance (by decide +kernel) (pa_cons (pe_errcall (params := lamA lam2) (body := lamB lam2) (scope := lamS lam2) (k := 8) D.aLawError D.cMakerError (by rfl) (pa_cons (pe_lam (T := [(Pt, lamQ)]) TB hc0 (List.mem_singleton.mpr rfl) (fun p hp _ => by rw [List.mem_singleton.mp hp]; rfl) (lamS_by (by show lamSB (defScope sLaw) _ = true; decide +kernel)) rfl) pa_nil) (hr.mono (by decide)) (lamS_by (by show lamSB (defScope sLaw) _ = true; decide +kernel)) (fun _ _ _ _ _ => rfl) (fun E f c' A' out' s' H' room' => pe_fnX hPlaces room' (by rfl) (passes_call (takes_of rfl rfl rfl rfl) (fun _ _ _ _ h => h)) (pa_cons (pv 3) (pa_cons (pv 10) pa_nil)))) (pa_cons (pe_glob (v := .ref (ga K "BadKind")) (by rfl) D.cBadKind rfl) pa_nil)))))
            (pss_one (ps_ret pe_bl))
            pss_nil)))))))))))))))))
      (pss_one (ps_ret pe_bl)))), ?_⟩
    -- the draw
    refine ⟨_, rfl, a, ns, rfl, hS, hl, fun d w' c H1 D1 s1 hd0 hw0 hc1 => ?_⟩
    have T1 := tabs_same s1 hT
    refine ⟨_, rfl, a, _, rfl, .inl (s1.seq hS), _, _, rfl, _, _, rfl, rfl, _, rfl, ?_, ?_, for_range (fun i σ Hx => ∃ v2 v3 v4 v5 v6 v7 v8 v9 v10 v11 v12 : Option V, σ = [some (.ref a), some (.ref d), v2, v3, v4, v5, v6, v7, v8, v9, v10, v11, v12] ∧ Draw Hx d w' c (20000 * i) ∧ Tabs [(Pt, lamQ)] Hx) ⟨none, none, none, none, none, none, none, none, none, none, none, rfl, D1.mono (by omega), T1⟩ ?_ ?_⟩
    · split <;> simp <;> omega
    · split <;> simp <;> omega
    · rintro i σ Hx hi ⟨v2, v3, v4, v5, v6, v7, v8, v9, v10, v11, v12, rfl, D0, T0⟩
      have hi9 : i < 9 := by
        refine Nat.lt_of_lt_of_le hi ?_
        rw [List.length_map]
        split <;> omega
      generalize ht : (20000 * (i : Int) : Int) = t at *
      have t9 : t ≤ 160000 := by omega
      show tSeq _ _ _ ([some (.ref a), some (.ref d), some (.int (0 + i)), v3, v4, v5, v6, v7, v8, v9, v10, v11, v12] : L2.St) _
      have mts : ∀ {Hx : Hp} {tx : Int}, Draw Hx d w' c tx → ∀ b ∈ [d, w'], ∀ o, Hx b = some o → Mt o := fun drx b hb o e => by
        obtain ⟨ws, cs, r, u', g1, g2, g3, g4⟩ := drx
        simp only [List.mem_cons, List.not_mem_nil, or_false] at hb
        rcases hb with rfl | rfl
        · rw [g1] at e
          cases e
          trivial
        · rw [g2] at e
          cases e
          trivial
      -- the program
      refine ⟨_, rfl, _, rfl, d, w', c, t, 2, rfl, D0, by omega, by decide, by decide, fun x Ha x0 x2 Da Ba => ⟨rfl, ?_⟩⟩
      refine ⟨d, w', c, t + 1, 12, _, rfl, Da, by omega, fun u dta Hb Db Bb hu pg => ?_⟩
      dsimp only [gName]
      show tSeq _ _ _ ([some (.ref a), some (.ref d), some (.int (0 + i)), some u, v4, v5, v6, v7, v8, v9, v10, v11, v12] : L2.St) _
      have Tb := tabs_but Da Bb (tabs_but D0 Ba T0)
      obtain ⟨vs, ps, bd, rfl, pa⟩ := prog_all pg
      have hnl := nl_prog pa.prog
      replace Db : Draw Hb d w' c (t + 10001) := Db.mono (by omega)
      clear Da Ba Bb D0 T0
      cases hu with
      | @tup pu xu _ eu ru =>
      have tu : TupD K Hb pu xu [.str "program", .tuple (vs.map PyData.str), .tuple ps, bd] := ⟨eu, ru⟩
      -- the names
      refine ⟨_, rfl, tu.item (i := 1) rfl fun y hy => ?_⟩
      cases hy with
      | @tup py ys _ ey ry =>
      obtain rfl := dx_strs ry
      refine ⟨py, _, rfl, .inr ey, fun l1 hl1 => ?_⟩
      have s2 : Same Hb (upd Hb l1 (.lst (vs.map V.str))) := snew hl1
      have el1 : (upd Hb l1 (.lst (vs.map V.str))) l1 = some (.lst (vs.map V.str)) := upd_same
      generalize upd Hb l1 (.lst (vs.map V.str)) = H2 at s2 el1 ⊢
      obtain ⟨z, hz1, hz⟩ := (tu.same s2).get 2 rfl
      cases hz with
      | @tup pz zs _ ez rz =>
      refine ⟨_, rfl, pu, xu, _, _, rfl, rfl, (tu.same s2).at_, hz1, pz, rfl, ⟨zs, ez⟩, fun Dn hDn => ?_⟩
      have hDn2 : H2 Dn = none := hDn
      refine lc_it (walk_tup (K := K) (a := pz) (xs := zs)) (fun j Hc => Same H2 Hc ∧ Hc Dn = some (.lst (((ps.take j).map hdN).map V.str))) ⟨snew hDn, upd_same⟩ (fun j Hc _ q => Dx.sameT q.1 ez) ?_ ?_
      · rintro j y Hc Hc' hj ⟨q1, q2⟩ ⟨rfl, hy⟩
        obtain ⟨x, hx, hxd⟩ := DxAll.atV rz hy
        obtain ⟨n, e, rfl, _⟩ := pa.each x (List.mem_append_left _ (List.mem_of_getElem? hx))
        have hxc := dxSame q1 _ _ hxd
        cases hxc with
        | @tup pq xq _ eq rq =>
        refine ⟨rfl, yes_if ?_⟩
        obtain ⟨v, hv1, hv⟩ := TupD.get (ds := [.str n, e]) ⟨eq, rq⟩ 0 rfl
        cases hv
        refine ⟨_, rfl, pq, xq, _, _, rfl, rfl, eq, hv1, _, q2, ?_, upd_same_new q1 hDn2, ?_⟩
        · rw [List.length_map, List.length_map, List.length_take]
          have := pa.pl
          rw [sizeLine_eq]
          omega
        · rw [upd_same, List.take_succ, hx, List.map_append, List.map_append]
          rfl
      rintro H3 ⟨q1, q2⟩
      have zl : zs.length = ps.length := rz.len
      rw [zl, List.take_length] at q2
      refine ⟨l1, Dn, _, _, rfl, rfl, q1 _ _ el1, q2, ?_, fun nm hnm => ?_⟩
      · rw [List.length_map, List.length_map, List.length_map, sizeLine_eq]
        have := pa.pl
        have := pa.vl
        omega
      rw [← List.map_append]
      have nmOk : ∀ n ∈ vs ++ ps.map hdN, ascS n = true ∧ n.length ≤ 8 := fun n hn => by
        rcases List.mem_append.mp hn with m | m
        · exact pa.nm n m
        · obtain ⟨x, hx, rfl⟩ := List.mem_map.mp m
          obtain ⟨n, e, rfl, _, h1, h2, _⟩ := pa.each x (List.mem_append_left _ hx)
          exact ⟨h1, h2⟩
      have nmL : (vs ++ ps.map hdN).length ≤ 1000 := by
        rw [List.length_append, List.length_map]
        have := pa.pl
        have := pa.vl
        omega
      have s4 : Same Hb (upd H3 nm (.lst ((vs ++ ps.map hdN).map V.str))) := s2.trans (q1.trans (snew hnm))
      have enm : (upd H3 nm (.lst ((vs ++ ps.map hdN).map V.str))) nm = some (.lst ((vs ++ ps.map hdN).map V.str)) := upd_same
      have Dnm := (Db.same (s2.trans q1)).fresh hnm
      dsimp only [gName]
      show tSeq _ _ _ ([some (.ref a), some (.ref d), some (.int (0 + i)), some (.ref pu), some (.ref nm), v5, v6, v7, v8, v9, v10, v11, v12] : L2.St) _
      generalize upd H3 nm (.lst ((vs ++ ps.map hdN).map V.str)) = H4 at s4 enm ⊢
      generalize vs ++ ps.map hdN = names at nmOk nmL enm
      have D4 := Db.same s4
      have T4 := tabs_same s4 Tb
      replace tu := tu.same s4
      clear s2 el1 ey ry ez rz q1 q2 hDn hDn2 hl1 hnm eu ru Db Tb s4 zl
      -- the kinds
      refine ⟨by show 3 ≤ sizeLine; decide, fun L hL => ?_⟩
      have s5 : Same H4 (upd H4 L (.lst (kinds3.map V.str))) := snew hL
      have eL : (upd H4 L (.lst (kinds3.map V.str))) L = some (.lst (kinds3.map V.str)) := upd_same
      refine ⟨L, rfl, ⟨_, SqL.of eL⟩, ?_⟩
      refine for_list (K := K) (a := L) (xs := kinds3.map V.str) (fun j σ Hx => ∃ v5 v6 : Option V, σ = [some (.ref a), some (.ref d), some (.int (0 + i)), some (.ref pu), some (.ref nm), v5, v6, v7, v8, v9, v10, v11, v12] ∧ Same (upd H4 L (.lst (kinds3.map V.str))) Hx) ⟨_, _, rfl, rsame⟩ (fun j σ Hx _ ⟨_, _, _, q⟩ => q.seq (SqL.of eL)) ?_ ?_
      · rintro j x σ Hx hx ⟨v5, v6, rfl, q⟩
        obtain ⟨kn, hkn, rfl⟩ := List.mem_map.mp (List.mem_of_getElem? hx)
        show tSeq _ _ _ ([some (.ref a), some (.ref d), some (.int (0 + i)), some (.ref pu), some (.ref nm), some (.str kn), v6, v7, v8, v9, v10, v11, v12] : L2.St) _
        have tx := tu.same (s5.trans q)
        have pk := pl_ok (kd := kn) pa.each pa.wt
        have hsh : SeqAt.shaped (.tuple (plL kn (partsL ps bd))) = true := shaped_of nl_plL pk.as_ (by have := pk.dp; omega)
        refine ⟨_, rfl, _, rfl, .ref pu, kn, _, _, ps, bd, rfl, hkn, tx.dx, pa.ok, (fun y hy n e z => ?_), (by have := pa.wt; omega), (by have := pa.pl; omega), fun l xs Hc hl sc el hdx => ?_⟩
        · obtain ⟨n', e', z', _, _, _, hd⟩ := pa.each y hy
          rw [z] at z'
          cases z'
          omega
        refine ⟨l, _, rfl, .inl ⟨SqL.of el, fun g hg => ?_⟩⟩
        have s6 : Same Hc (upd Hc g (.tup xs)) := snew hg
        have tg : TupD K (upd Hc g (.tup xs)) g xs (plL kn (partsL ps bd)) := TupD.new hg hdx
        generalize upd Hc g (.tup xs) = Hd at s6 tg ⊢
        have t1 := tx.same (sc.trans s6)
        refine ⟨_, rfl, _, rfl, .ref pu, _, .str kn, .str kn, rfl, t1.dx, .str kn, (by have := pa.wtP; omega), (by have := pa.dep; omega), (fun z => by rw [pa.prog] at z; cases z), (fun _ z => by rw [kind_in hkn] at z; cases z), fun _ _ => ⟨kn, _, _, ps, bd, rfl, rfl, fun p1 xs1 He s7 tp => ?_⟩⟩
        refine ⟨_, _, rfl, tp.dx, pk.sh, pk.dp, pk.ln, ?_⟩
        refine ⟨_, rfl, _, _, rfl, (tg.same s7).dx, pk.sh, pk.dp, pk.ln, ?_⟩
        refine ⟨rfl, _, rfl, ?_⟩
        rw [decide_eq_true rfl]
        refine iteF ?_
        refine ⟨_, rfl, _, rfl, _, _, rfl, .ref pu, _, .str kn, .str kn, rfl, (t1.same s7).dx, .str kn, (by have := pa.wtP; omega), (by have := pa.dep; omega), (fun z => by rw [pa.prog] at z; cases z), (fun _ z => by rw [kind_in hkn] at z; cases z), fun _ _ => ⟨kn, _, _, ps, bd, rfl, rfl, fun p2 xs2 Hf s8 tp2 => ?_⟩⟩
        refine ⟨_, rfl, .tuple (plL kn (partsL ps bd)), .tuple (plL kn (partsL ps bd)), Dx.dp (d := .tuple _) nl_plL tp2.dx, Dx.dp (d := .tuple _) nl_plL ((tg.same s7).same s8).dx, hsh, hsh, _, rfl, ?_⟩
        rw [SeqAt.eqv_refl _ (SeqAt.canLay_of_shaped hsh)]
        refine iteF ?_
        exact ⟨_, _, rfl, q.trans (sc.trans (s6.trans (s7.trans s8)))⟩
      · rintro σ Hx ⟨v5, v6, rfl, q⟩
        have D5 := D4.same (s5.trans q)
        have T5 := tabs_same (s5.trans q) T4
        have t5 := tu.same (s5.trans q)
        have n5 := q _ _ (s5 _ _ enm)
        show tSeq _ _ _ ([some (.ref a), some (.ref d), some (.int (0 + i)), some (.ref pu), some (.ref nm), v5, v6, v7, v8, v9, v10, v11, v12] : L2.St) Hx
        clear s5 q eL D4 T4 tu enm hL
        obtain ⟨_, _, eqb, exb, _⟩ := pa.each (.tuple [.str "body", bd]) (List.mem_append_right _ (List.mem_singleton.mpr rfl))
        cases eqb
        refine ⟨_, rfl, .ref pu, _, rfl, t5.dx, (by have := pa.wtP; omega), (by have := pa.dep; omega), fun Hc sc => ⟨_, _, rfl, rfl, _, rfl, ?_⟩⟩
        rw [pa.prog]
        refine iteF ?_
        refine ⟨_, rfl, .ref pu, _, rfl, (t5.same sc).dx, (by have := pa.wtP; omega), (by have := pa.dep; omega), fun Hd sd => ⟨_, _, rfl, rfl, _, rfl, ?_⟩⟩
        rw [pa.prog]
        refine iteF ?_
        have t6 := t5.same (sc.trans sd)
        obtain ⟨vb, hvb1, hvb⟩ := t6.get 3 rfl
        have wtb : Any.wt bd ≤ 3000 := by
          have := pa.wtP
          have := wtA_mem (ds := [PyData.str "program", .tuple (vs.map PyData.str), .tuple ps, bd]) (d := bd) (by simp)
          simp only [Any.wt] at *
          omega
        refine ⟨_, rfl, pu, xu, _, _, rfl, rfl, t6.at_, hvb1, vb, bd, rfl, hvb, by omega, fun He se => ⟨_, _, rfl, rfl, _, rfl, ?_⟩⟩
        rw [exb]
        refine iteF ?_
        have s9 := sc.trans (sd.trans se)
        replace D5 := D5.same s9
        replace T5 := tabs_same s9 T5
        replace t5 := t5.same s9
        replace n5 := s9 _ _ n5
        clear s9 sc sd se t6 hvb1 hvb
        -- the laps
        refine ⟨5, rfl, by decide, by decide, for_range (fun j σ Hx => ∃ v7 v8 v9 v10 v11 v12 : Option V, σ = [some (.ref a), some (.ref d), some (.int (0 + i)), some (.ref pu), some (.ref nm), v5, v6, v7, v8, v9, v10, v11, v12] ∧ Draw Hx d w' c (t + 10001 + 1000 * j) ∧ Tabs [(Pt, lamQ)] Hx ∧ TupD K Hx pu xu [.str "program", .tuple (vs.map PyData.str), .tuple ps, bd] ∧ Hx nm = some (.lst (names.map V.str))) ⟨_, _, _, _, _, _, rfl, D5.mono (by omega), T5, t5, n5⟩ ?_ ?_⟩
        · rintro j σ Hx hj ⟨v7, v8, v9, v10, v11, v12, rfl, D0, T0, tx, nx⟩
          have hj5 : j < 5 := hj
          show tSeq _ _ _ ([some (.ref a), some (.ref d), some (.int (0 + i)), some (.ref pu), some (.ref nm), v5, v6, some (.int (0 + j)), v8, v9, v10, v11, v12] : L2.St) _
          generalize htt : (t + 10001 + 1000 * (j : Int) : Int) = tt at *
          have tt9 : tt ≤ 200000 := by omega
          have hxp : Dx K (hidS [d, w'] Hx) (.ref pu) (.tuple [.str "program", .tuple (vs.map PyData.str), .tuple ps, bd]) := (Tst.hid (mts D0)).dx hnl tx.dx
          have w1 := pa.wtP
          have d1 := pa.dep
          refine ⟨_, rfl, _, rfl, _, rfl, d, w', c, tt, .ref pu, _, nm, names, rfl, D0, by omega, hxp, pa.as_, by omega, by omega, nx, Dnm.1, Dnm.2.1, nmL, nmOk, fun u1 y1 H1 D1 B1 hy1 o1 => ?_⟩
          show tSeq _ _ _ ([some (.ref a), some (.ref d), some (.int (0 + i)), some (.ref pu), some (.ref nm), v5, v6, some (.int (0 + j)), some u1, v9, v10, v11, v12] : L2.St) _
          -- once more
          refine ⟨_, rfl, _, _, rfl, rfl, _, rfl, ?_⟩
          refine (fun (rest : ∀ v y H', Draw H' d w' c (tt + 8) → But d w' Hx H' → Dx K (hidS [d, w'] H') v y → asc y = true → Any.wt y ≤ 12090 → y.depth ≤ 24 → (?Ga : V → Hp → Prop) v H') => ?fa) ?ga
          case fa =>
            have q1 := o1.wt
            have q2 := o1.dep
            refine ite2 (fun _ => ?_) (fun _ => ?_)
            rotate_left
            · refine ⟨_, rfl, _, rfl, _, rfl, d, w', c, tt + 4, u1, y1, nm, names, rfl, D1, by omega, hy1, o1.asc, by omega, by omega, B1 _ _ nx Dnm.1 Dnm.2.1, Dnm.1, Dnm.2.1, nmL, nmOk, fun u2 y2 H2 D2 B2 hy2 o2 => ?_⟩
              have q3 := o2.wt
              have q4 := o2.dep
              exact rest u2 y2 H2 (D2.mono (by omega)) (B1.trans B2) hy2 o2.asc (by omega) (by omega)
            · refine ⟨_, rfl, ?_⟩
              exact rest u1 y1 H1 (D1.mono (by omega)) B1 hy1 o1.asc (by omega) (by omega)
          case ga =>
          intro v y H2 D2 B2 hy ha hw hd
          show tSeq _ _ _ ([some (.ref a), some (.ref d), some (.int (0 + i)), some (.ref pu), some (.ref nm), v5, v6, some (.int (0 + j)), some v, v9, v10, v11, v12] : L2.St) H2
          clear D1 B1 hy1 o1
          -- more parts
          refine ⟨_, rfl, rfl, _, rfl, ?_⟩
          refine (fun (rest : ∀ v y H', Draw H' d w' c (tt + 120) → But d w' Hx H' → Dx K (hidS [d, w'] H') v y → asc y = true → Any.wt y ≤ 12090 → y.depth ≤ 24 → (?Gb : V → Hp → Prop) v H') => ?fb) ?gb
          case fb =>
            refine ite2 (fun _ => ?_) (fun _ => ?_)
            rotate_left
            · refine ⟨_, rfl, _, rfl, d, w', c, tt + 8, .ref pu, _, _, _, _, rfl, D2, by omega, ((B2.fr.tst (mts D0)).tupD hnl tx).dx, hnl, fun u3 qs H3 D3 B3 h3 pok3 len3 => ?_⟩
              have nl3 : nl (.tuple [.str "program", .tuple (vs.map PyData.str), .tuple qs, bd]) = true := nl_tup' fun z hz => by
                simp only [List.mem_cons, List.not_mem_nil, or_false] at hz
                rcases hz with rfl | rfl | rfl | rfl
                · rfl
                · exact nl_mem hnl (by simp)
                · exact nl_tup' fun q hq => (pok3 q hq).1
                · exact nl_mem hnl (by simp)
              refine rest u3 _ H3 (D3.mono (by omega)) (B2.trans B3) ((Tst.hid (mts D3)).dx nl3 h3) (asc_tup' fun z hz => ?_) ?_ ?_
              · simp only [List.mem_cons, List.not_mem_nil, or_false] at hz
                rcases hz with rfl | rfl | rfl | rfl
                · exact asc_mem pa.as_ (by simp)
                · exact asc_mem pa.as_ (by simp)
                · exact asc_tup' fun q hq => (pok3 q hq).2.1
                · exact asc_mem pa.as_ (by simp)
              · have h1 := wtA_each (n := 30) fun q hq => (pok3 q hq).2.2.1
                simp only [Any.wt, wtA] at w1 ⊢
                omega
              · have h1 : PyData.depthAll qs ≤ 2 := depthAll_of fun q hq => (pok3 q hq).2.2.2
                have h2 := Exq.depth_mem (xs := [PyData.str "program", .tuple (vs.map PyData.str), .tuple ps, bd]) (x := bd) (by simp)
                have h3 := Exq.depth_mem (xs := [PyData.str "program", .tuple (vs.map PyData.str), .tuple ps, bd]) (x := .tuple (vs.map PyData.str)) (by simp)
                rw [depth_tup] at d1
                rw [depth_tup] at h3
                show max 0 (max (PyData.depthAll (vs.map PyData.str) + 1) (max (PyData.depthAll qs + 1) (max bd.depth 0))) + 1 ≤ 24
                omega
            · refine ⟨_, rfl, ?_⟩
              exact rest v y H2 (D2.mono (by omega)) B2 hy ha hw hd
          case gb =>
          clear D2 B2 hy ha hw hd
          rename_i vo yo
          intro v y H2 D2 B2 hy ha hw hd
          show tSeq _ _ _ ([some (.ref a), some (.ref d), some (.int (0 + i)), some (.ref pu), some (.ref nm), v5, v6, some (.int (0 + j)), some v, v9, v10, v11, v12] : L2.St) H2
          -- an expression
          have t2 : TupD K H2 pu xu [.str "program", .tuple (vs.map PyData.str), .tuple ps, bd] := (B2.fr.tst (mts D0)).tupD hnl tx
          obtain ⟨vb2, hvb2, hb2⟩ := t2.get 3 rfl
          have nlb : nl bd = true := nl_mem hnl (by simp)
          have db : bd.depth ≤ 20 := by
            have := Exq.depth_mem (xs := [PyData.str "program", .tuple (vs.map PyData.str), .tuple ps, bd]) (x := bd) (by simp)
            rw [depth_tup] at d1
            omega
          refine ⟨_, rfl, _, rfl, pu, xu, _, _, rfl, rfl, t2.at_, hvb2, _, rfl, d, w', c, tt + 120, vb2, bd, nm, names, rfl, D2, by omega, (Tst.hid (mts D2)).dx nlb hb2, asc_mem pa.as_ (by simp), by omega, by omega, B2 _ _ nx Dnm.1 Dnm.2.1, Dnm.1, Dnm.2.1, nmL, nmOk, fun u4 y4 H3 D3 B3 hy4 o4 => ?_⟩
          show tSeq _ _ _ ([some (.ref a), some (.ref d), some (.int (0 + i)), some (.ref pu), some (.ref nm), v5, v6, some (.int (0 + j)), some v, some u4, v10, v11, v12] : L2.St) H3
          have q1 := o4.wt
          have q2 := o4.dep
          have q3 := o4.asc
          replace hy := B3.fr.dx hy
          replace t2 := (B3.fr.tst (mts D2)).tupD hnl t2
          have B03 := B2.trans B3
          clear hvb2 hb2 nlb D2 B2 B3 vb2 o4
          -- is_program, is_expression
          refine ⟨_, rfl, v, y, rfl, hy.unhid, by omega, by omega, fun H4 s4 => ?_⟩
          refine ⟨_, rfl, v, y, rfl, dxSame s4 _ _ hy.unhid, ha, by omega, by omega, fun H5 s5 => ⟨rfl, _, rfl, ?_⟩⟩
          rw [decide_eq_true rfl]
          refine iteF ?_
          refine ⟨_, rfl, u4, y4, rfl, dxSame (s4.trans s5) _ _ hy4.unhid, by omega, fun H6 s6 => ?_⟩
          refine ⟨_, rfl, u4, y4, rfl, dxSame ((s4.trans s5).trans s6) _ _ hy4.unhid, q3, by omega, by omega, fun H7 s7 => ⟨rfl, _, rfl, ?_⟩⟩
          rw [decide_eq_true rfl]
          refine iteF ?_
          have s47 := (s4.trans s5).trans (s6.trans s7)
          have D7 := D3.same s47
          have t7 := t2.same s47
          have B7 : But d w' Hx H7 := B03.trans (But.of s47)
          have y7 : Dx K (hidS [d, w'] H7) v y := (Fr.of s47).dx hy
          clear s4 s5 s6 s7 s47 hy4 q1 q2 q3 B03 D3 t2 hy y4
          show tSeq _ _ _ ([some (.ref a), some (.ref d), some (.int (0 + i)), some (.ref pu), some (.ref nm), v5, v6, some (.int (0 + j)), some v, some u4, v10, v11, v12] : L2.St) H7
          -- odd
          refine ⟨_, rfl, by show 1 ≤ sizeLine; decide, fun p1 h1 => ?_⟩
          have z1 : Same H7 (upd H7 p1 (.tup [.str "fill"])) := snew h1
          have g1 : (upd H7 p1 (.tup [.str "fill"])) p1 = some (.tup [.str "fill"]) := upd_same
          have f1 := D7.fresh h1
          generalize upd H7 p1 (.tup [.str "fill"]) = G1 at z1 g1 ⊢
          refine ⟨by show 0 ≤ sizeLine; exact Nat.zero_le _, fun p2 h2 => ?_⟩
          have z2 : Same G1 (upd G1 p2 (.lst [])) := snew h2
          have g2 : (upd G1 p2 (.lst [])) p2 = some (.lst []) := upd_same
          have f2 := (D7.same z1).fresh h2
          generalize upd G1 p2 (.lst []) = G2 at z2 g2 ⊢
          refine ⟨by show 8 ≤ sizeLine; decide, fun l3 h3 => ?_⟩
          have z3 : Same G2 (upd G2 l3 (.lst [.non, .int 5, .str "width", .str "Order", .ref p1, .ref p2, .str "anew", .int 0])) := snew h3
          have f3 := ((D7.same z1).same z2).fresh h3
          have g3 : (upd G2 l3 (.lst [.non, .int 5, .str "width", .str "Order", .ref p1, .ref p2, .str "anew", .int 0])) l3 = some (.lst [.non, .int 5, .str "width", .str "Order", .ref p1, .ref p2, .str "anew", .int 0]) := upd_same
          generalize upd G2 l3 (.lst [.non, .int 5, .str "width", .str "Order", .ref p1, .ref p2, .str "anew", .int 0]) = G3 at z3 g3 ⊢
          have n12 : ∀ {p : Addr}, p ≠ d ∧ p ≠ w' ∧ p ≠ c → p ∉ [d, w'] := fun h m => by
            simp only [List.mem_cons, List.not_mem_nil, or_false] at m
            rcases m with rfl | rfl
            · exact h.1 rfl
            · exact h.2.1 rfl
          have all : DxAll K (hidS [d, w'] G3) [.non, .int 5, .str "width", .str "Order", .ref p1, .ref p2, .str "anew", .int 0] [.none, .int 5, .str "width", .str "Order", .tuple [.str "fill"], .list [], .str "anew", .int 0] :=
            .cons .non (.cons (.int 5) (.cons (.str _) (.cons (.str _) (.cons (.tup (SqT.of (hid_of (n12 f1) (z3 _ _ (z2 _ _ g1)))) (.cons (.str _) .nil)) (.cons (.lst (SqL.of (hid_of (n12 f2) (z3 _ _ g2))) .nil) (.cons (.str _) (.cons (.int 0) .nil)))))))
          refine ⟨d, w', c, l3, tt + 200, _, rfl, (((D7.same z1).same z2).same z3).mono (by omega), by omega, SqL.of g3, f3.1, f3.2.1, by simp, by show 8 < 1073741824; decide, fun od H8 mod D8 B8 => ?_⟩
          obtain ⟨kd, mk, hod⟩ := DxAll.mem all mod
          have hkd : kindD kd = false := by
            simp only [List.mem_cons, List.not_mem_nil, or_false] at mk
            rcases mk with rfl | rfl | rfl | rfl | rfl | rfl | rfl | rfl <;> decide +kernel
          replace hod := B8.fr.dx hod
          have b78 : But d w' H7 H8 := (But.of (z1.trans (z2.trans z3))).trans B8
          have t8 : TupD K H8 pu xu _ := (b78.fr.tst (mts D7)).tupD hnl t7
          have y8 := b78.fr.dx y7
          have B08 := B7.trans b78
          have T8 := tabs_but D0 B08 T0
          dsimp only [gName]
          show tSeq _ _ _ ([some (.ref a), some (.ref d), some (.int (0 + i)), some (.ref pu), some (.ref nm), v5, v6, some (.int (0 + j)), some v, some u4, some od, v11, v12] : L2.St) H8
          clear z1 z2 z3 g1 g2 g3 f1 f2 f3 all mod mk B8 b78 y7 t7 B7 D7 h1 h2 h3
          -- works
          have n8 := B08 _ _ nx Dnm.1 Dnm.2.1
          have o8 := hod.unhid
          refine ⟨T8, fun f c1 H9 ex9 T9 nf hc1 => ?_⟩
          have D9 := extn_draw ex9 D8
          have t9' : TupD K H9 pu xu [.str "program", .tuple (vs.map PyData.str), .tuple ps, bd] := ⟨extn_sqT ex9 t8.at_, extn_dxA ex9 _ _ t8.all⟩
          have n9 : H9 nm = some (.lst (names.map V.str)) := ex9 _ _ n8 fun ps z => by cases z
          have y9 := extn_dx ex9 _ _ y8.unhid
          have o9 := extn_dx ex9 _ _ o8
          clear D8 t8 n8 y8 o8 hod ex9 T8 B08
          refine ⟨by show 1 ≤ sizeLine; decide, fun l4 h4 => ?_⟩
          have D10 := (D9.same (snew nf)).same (snew h4 (o := .lst [.ref f]))
          have T10 := tabs_same (snew h4 (o := .lst [.ref f])) (tabs_same (snew nf) T9)
          have t10 := (t9'.same (snew nf)).same (snew h4 (o := .lst [.ref f]))
          have n10 := snew h4 (o := .lst [.ref f]) _ _ (snew nf _ _ n9)
          have y10 := dxSame (snew h4 (o := .lst [.ref f])) _ _ (dxSame (snew nf) _ _ y9)
          have o10 := dxSame (snew h4 (o := .lst [.ref f])) _ _ (dxSame (snew nf) _ _ o9)
          have c10 := snew h4 (o := .lst [.ref f]) _ _ (snew nf _ _ hc1)
          dsimp only [gName]
          show tSeq _ _ _ ([some (.ref a), some (.ref d), some (.int (0 + i)), some (.ref pu), some (.ref nm), v5, v6, some (.int (0 + j)), some v, some u4, some od, some (.ref l4), v12] : L2.St) _
          refine (fun (rest : ∀ H', Draw H' d w' c (tt + 201) → Tabs [(Pt, lamQ)] H' → TupD K H' pu xu [.str "program", .tuple (vs.map PyData.str), .tuple ps, bd] → H' nm = some (.lst (names.map V.str)) → Dx K H' od kd → (?Gc : Hp → Prop) H') => ?fc) ?gc
          case fc =>
            refine ⟨_, rfl, v, y, rfl, y10, ha, by omega, by omega, fun H11 s11 => ⟨_, rfl, ?_⟩⟩
            cases cp : progD y with
            | true =>
              refine iteF ?_
              refine iteF ?_
              exact rest H11 ((D10.same s11).mono (by omega)) (tabs_same s11 T10) (t10.same s11) (s11 _ _ n10) (dxSame s11 _ _ o10)
            | false =>
              refine iteT ?_
              refine ⟨_, rfl, l4, [.ref f], 0, .ref f, rfl, rfl, SqL.of (s11 _ _ upd_same), rfl, f, c1, rfl, s11 _ _ (snew h4 (o := .lst [.ref f]) _ _ upd_same), s11 _ _ c10, ?_⟩
              refine ⟨_, rfl, _, rfl, v, y, od, kd, rfl, dxSame s11 _ _ y10, dxSame s11 _ _ o10, by omega, by omega, fun _ H12 s12 => ⟨U.x1, fun ae hae => ?_⟩, (fun z => by rw [cp] at z; cases z), (fun z => by rw [cp] at z; cases z)⟩
              have sE : Same H11 (upd H12 ae (ErO (.ref (ga K "BadProgram")) none ae)) := s12.trans (snew hae)
              refine ⟨ae, ga K "BadProgram", none, .ref (ga K "BadProgram"), .ref (ga K "BadProgram"), true, rfl, upd_same, .inl rfl, U.r1, .own _, U.k1, _, rfl, ?_⟩
              refine iteF ?_
              have sA := s11.trans sE
              exact rest _ ((D10.same sA).mono (by omega)) (tabs_same sA T10) (t10.same sA) (sA _ _ n10) (dxSame sA _ _ o10)
          case gc =>
          intro H12 D12 T12 t12 n12' o12
          refine ⟨T12, fun f2 c2 H14 ex14 T14 nf2 hc2 => ⟨f2, c2, rfl, upd_same, snew nf2 _ _ hc2, ?_⟩⟩
          have D14 := extn_draw ex14 D12
          have t14 : TupD K H14 pu xu [.str "program", .tuple (vs.map PyData.str), .tuple ps, bd] := ⟨extn_sqT ex14 t12.at_, extn_dxA ex14 _ _ t12.all⟩
          have n14 : H14 nm = some (.lst (names.map V.str)) := ex14 _ _ n12' fun ps z => by cases z
          have o14 := extn_dx ex14 _ _ o12
          refine ⟨_, rfl, _, rfl, .ref pu, _, od, kd, rfl, (t14.same (snew nf2)).dx, dxSame (snew nf2) _ _ o14, by omega, by omega, (fun z => by rw [pa.prog] at z; cases z), (fun _ _ H15 s15 => ⟨U.x2, fun ae hae => ?_⟩), (fun _ z => by rw [hkd] at z; cases z)⟩
          refine ⟨ae, ga K "BadKind", none, .ref (ga K "BadKind"), .ref (ga K "BadKind"), true, rfl, upd_same, .inl rfl, U.r2, .own _, U.k2, _, rfl, ?_⟩
          refine iteF ?_
          have sA : Same H14 (upd H15 ae (ErO (.ref (ga K "BadKind")) none ae)) := (snew nf2).trans (s15.trans (snew hae))
          exact ⟨_, _, _, _, _, _, rfl, (D14.same sA).mono (by omega), tabs_same sA T14, t14.same sA, sA _ _ n14⟩
        · rintro σ Hx ⟨v7, v8, v9, v10, v11, v12, rfl, D6, T6, _, _⟩
          exact ⟨_, _, _, _, _, _, _, _, _, _, _, rfl, D6.mono (by omega), T6⟩
    · rintro σ Hx ⟨v2, v3, v4, v5, v6, v7, v8, v9, v10, v11, v12, rfl, _⟩
      exact k _
end
end Any
set_option Elab.async false
set_option linter.all false
set_option maxRecDepth 100000
set_option maxHeartbeats 4000000
/-! The law's own call where it makes lambdas: its table of code objects is tracked. -/
namespace Any
open PySem PySem.Spec PyProof.Rows L2 LamX
open He (ga ma)
section
variable {P : Program} {w : World} {K : PySem.W.Frag} {mg mb : Str → Option Value} {k : Nat} {fa a c0 Pt : Addr} {fd : FuncData} {x : Str} {sp : Sp} {s₁ : Shared} {vs : List Value} {ns : List Int}
abbrev noObj : Obj := { cls := .none, data := .fields #[] }
/-- from an abstract heap that tracks the empty table, and the script at most -/
theorem law_tab (KX : K.In s₁.heap) (hns : s₁.heap.Ns mainGlobals mg) (hb : s₁.heap.Ns builtinsNs mb) (hbb : ∀ x : Str, x ≠ "__name__" → mb x = bootBuiltins x) (hlim : s₁.heap.NoLimit) (hg : s₁.gens = #[])
    (et : s₁.heap.get? Pt = some noObj) (nt : K.lookup Pt = none) (hc : PySem.W.codeHdIn K c0 Pt = true) (hm : ∃ (m : Addr) (ob : Obj), mg "__builtins__" = some (.ref m) ∧ m ≠ builtinsNs ∧ s₁.heap.get? m = some ob ∧ ob.cls = .type "module" ∧ ob.dict = some builtinsNs ∧ ob.data = .plain)
    (ha : s₁.heap.get? a = some { cls := .type "list", data := .seq vs.toArray }) (hr : Room k callerA) (F : ∀ base : Heap, K.In base → base.Ns mainGlobals mg → TabB base mg c0 Pt → FnG P w K mg base CX0 k fa fd [x] sp)
    (hbind : ∀ (s : Shared) (u : Value), BindsTo s fd ⟨[u], []⟩ [(x, u)]) {H : Hp} (hP : H Pt = some (.tbl #[])) (hO : ∀ b, b ≠ Pt → H b = none ∨ ∃ o xs, H b = some (.frz o (.lst xs))) (hok : HOk P w H s₁.heap) (hA : ∀ b, b ≠ Pt → H b ≠ none → b = a) (hK : H a ≠ none → K.lookup a = none)
    (hsp : sp [.ref a] H (fun v _ => v = .bl true) fun _ _ _ => False) :
    codeAny (model P w) callerA (.call (.ref fa) ⟨[.ref a], []⟩) (fun r s' => r = .ok (.ret (.bool true)) ∧ OldK s₁.heap s'.heap ∧ s'.os = s₁.os ∧ AllBare s'.gens) s₁ := by
  have notP : ∀ {b : Addr} {o : Obj}, s₁.heap.get? b = some o → o ≠ noObj → b ≠ Pt := fun e n z => by
    rw [z, et] at e
    exact n (Option.some.inj e).symm
  have free : ∀ {b : Addr} {o : Obj}, s₁.heap.get? b = some o → o ≠ noObj → (∀ ws n, o.data ≠ .seq ws n) → H b = none := fun {b o} e n1 n2 => by
    cases q : H b with
    | none => rfl
    | some u =>
      have z := hA b (notP e n1) (by rw [q]; exact Option.some_ne_none u)
      rw [z, ha] at e
      cases e
      exact absurd rfl (n2 _ _)
  have hid : ∀ {b : Addr} {o : Obj}, s₁.heap.get? b = some o → H b = none → (hidT s₁.heap H).get? b = some o := fun e n => hidT_get e n
  have dict : ∀ {b : Addr} {o : Obj} {es : Array DictEntry} {ep : Nat}, s₁.heap.get? b = some o → o.data = .dict es ep → o ≠ noObj ∧ H b = none := fun {b o es ep} e d => by
    have n : o ≠ noObj := fun z => by
      rw [z] at d
      cases d
    exact ⟨n, free e n fun ws i z => by rw [d] at z; cases z⟩
  have nsH : ∀ {b : Addr} {m : Str → Option Value}, s₁.heap.Ns b m → (hidT s₁.heap H).Ns b m := fun ⟨o, es, ep, e, d, r⟩ => ⟨o, es, ep, hid e (dict e d).2, d, r⟩
  have kH : K.In (hidT s₁.heap H) := fun b o e => hid (KX b o e) (by
    cases q : H b with
    | none => rfl
    | some u =>
      by_cases z : b = Pt
      · rw [z, nt] at e
        cases e
      · have z2 := hA b z (by rw [q]; exact Option.some_ne_none u)
        rw [z2] at e q
        rw [hK (by rw [q]; exact Option.some_ne_none u)] at e
        cases e)
  obtain ⟨mc, l1, l2⟩ := hlim
  have mainP : mainGlobals ≠ Pt := by
    obtain ⟨o, es, ep, e, d, _⟩ := hns
    exact notP e (dict e d).1
  have tb : TabB (hidT s₁.heap H) mg c0 Pt := by
    refine ⟨PySem.W.codeHd_of_K kH hc, ?_, mainP⟩
    obtain ⟨m, ob, g1, g2, g3, g4, g5, g6⟩ := hm
    have n : ob ≠ noObj := fun z => by
      rw [z] at g6
      cases g6
    refine ⟨m, ob, g1, g2, fun z => ?_, notP g3 n, hid g3 (free g3 n fun ws i z => by rw [g6] at z; cases z), g4, g5, g6⟩
    obtain ⟨o, es, ep, e, d, _⟩ := hns
    rw [z, e] at g3
    cases g3
    rw [d] at g6
    cases g6
  have e0 : Env0 P w K mg (hidT s₁.heap H) callerA [] s₁ H :=
    ⟨rfl, ⟨kH, nsH hns, ⟨mb, nsH hb, hbb⟩, mc, nsH l1, l2⟩, fun b o e => of_hidT e, Nat.le_of_eq (hidT_size _ _), True.intro, fun b z => absurd (show b ∈ ([] : List Addr) from z) List.not_mem_nil, hok, .of_eq hg⟩
  refine codeAny_mono ((F _ kH (nsH hns) tb).go callerA [] s₁ H ⟨[.ref a], []⟩ [.ref a] [.ref a] _ _ clr_caller hr e0 (hbind s₁ (.ref a)) (.cons rfl .nil) hsp) fun r s' z => ?_
  match r, z with
  | .error e, z => exact z.elim
  | .ok (.ret u), ⟨v, H', os, bare, un, hok', rv, q⟩ =>
    have q' : v = .bl true := q
    subst q'
    cases (show u = Value.bool true from rv)
    have same : ∀ b o, b ≠ Pt → s₁.heap.get? b = some o → s'.heap.get? b = some o := fun b o nb e => by
      rcases hO b nb with z | ⟨ob, xs, z⟩
      · exact un.keep b o e z (fun z => absurd (show b ∈ ([] : List Addr) from z) List.not_mem_nil) List.not_mem_nil
      · obtain ⟨g1, _⟩ := hok b _ z
        obtain ⟨g2, _⟩ := hok' b _ (un.frzs b ob _ z)
        rw [e] at g1
        cases g1
        exact g2
    obtain ⟨more, hm'⟩ := un.tbls Pt #[] hP
    have ep : s'.heap.get? Pt = some { cls := .none, data := .fields (#[] ++ more) } := hok' Pt _ hm'
    have ct := ((PySem.W.codeHd_of_K KX hc).tab et).isCodeTable
    refine ⟨rfl, ⟨fun b o e => ?_, fun b o e => ?_⟩, os, bare⟩
    · by_cases z : b = Pt
      · subst z
        rw [et] at e
        cases e
        exact .inr (.inl ⟨ct, rfl, #[], more, rfl, ep⟩)
      · exact .inl (same b o z e)
    · by_cases z : b = Pt
      · rw [z]
        exact ⟨_, ep⟩
      · exact ⟨o, same b o z e⟩
end
/-- the goal that a head leaves -/
theorem walkT {l : PySem.W.OpenLaw} {n k : Nat} {q : Program} {loose : List Str} {XP : (Str → Option Value) → Heap → Prop} {YP : World → Heap → Prop} {d : DefRec} {x : Str} (hn : l.most = some n) (hn2 : n ≤ sizeLine) (hdf : d.params.defaults = []) (hr : Room k callerA)
    (F : ∀ (w : World) (mg : Str → Option Value) (fa : Addr) (h : Heap), YP w h → h.Ns mainGlobals mg → mg d.name = some (.ref fa) →
      ∃ (K : PySem.W.Frag) (fd : FuncData) (c0 Pt : Addr) (sp : Sp), K.In h ∧ h.get? Pt = some noObj ∧ K.lookup Pt = none ∧ PySem.W.codeHdIn K c0 Pt = true ∧ (∀ (s : Shared) (u : Value), BindsTo s fd ⟨[u], []⟩ [(x, u)]) ∧
        (∀ (H : Hp) (a : Addr) (ns : List Int), ns.length ≤ n → H Pt = some (.tbl #[]) → SqL K H a (ns.map V.int) → sp [.ref a] H (fun v _ => v = .bl true) fun _ _ _ => False) ∧
        ∀ base : Heap, K.In base → base.Ns mainGlobals mg → TabB base mg c0 Pt → FnG l.prog w K mg base CX0 k fa fd [x] sp) :
    PySem.W.WalkO q loose XP YP l.row.toRowW d [] (fun f vs => PySem.call f vs) := by
  refine Att.attach_callB hn hdf fun w s₀ s₁ mg mb fa o pm cd doc a vs ns G Y ho hd hcd hmg hobj hints hlen hbits hg => ?_
  obtain ⟨K, fd, c0, Pt, sp, KX, et, nt, hc, hb, hsp, hF⟩ := F w mg fa _ Y G.T.g hmg
  have rv := vals_ints hints
  have lv := hints.length
  have nP : a ≠ Pt := fun z => by
    rw [z, et] at hobj
    cases hobj
  cases e : K.lookup a with
  | some o =>
    have e1 := KX a o e
    rw [hobj] at e1
    cases e1
    refine law_tab KX G.T.g G.T.b G.T.builtins G.T.nolimit hg et nt hc G.T.bmain hobj hr hF hb (H := fun b => if b = Pt then some (.tbl #[]) else none) (if_pos rfl) (fun b z => .inl (if_neg z)) (fun b u z => ?_) (fun b z y => absurd (if_neg z) y) (fun z => absurd (if_neg nP) z)
      (hsp _ a ns hlen (if_pos rfl) (.inr ⟨_, vs.toArray, _, e, rfl, rfl, rfl, by rw [List.size_toArray, lv]; exact Nat.le_trans hlen hn2, by simpa using rv⟩))
    by_cases y : b = Pt
    · subst y
      cases (if_pos rfl).symm.trans z
      exact et
    · cases (if_neg y).symm.trans z
  | none =>
    refine law_tab KX G.T.g G.T.b G.T.builtins G.T.nolimit hg et nt hc G.T.bmain hobj hr hF hb (H := fun b => if b = Pt then some (.tbl #[]) else if b = a then some (.frz { cls := .type "list", data := .seq vs.toArray } (.lst (ns.map V.int))) else none) (if_pos rfl) (fun b z => ?_) (fun b u z => ?_) (fun b z y => ?_) (fun _ => e)
      (hsp _ a ns hlen (if_pos rfl) (.inl (.inr ⟨_, (if_neg nP).trans (if_pos rfl)⟩)))
    · by_cases y : b = a
      · exact .inr ⟨_, _, (if_neg z).trans (if_pos y)⟩
      · exact .inl ((if_neg z).trans (if_neg y))
    · by_cases y : b = Pt
      · subst y
        cases (if_pos rfl).symm.trans z
        exact et
      · have z1 := (if_neg y).symm.trans z
        by_cases y2 : b = a
        · subst y2
          cases (if_pos rfl).symm.trans z1
          exact ⟨hobj, by rw [List.length_map]; exact Nat.le_trans hlen hn2, vs, _, rv, hobj⟩
        · cases (if_neg y2).symm.trans z1
    · by_cases y2 : b = a
      · exact y2
      · exact absurd ((if_neg z).trans (if_neg y2)) y
end Any
set_option Elab.async false
set_option linter.all false
set_option maxRecDepth 100000
set_option maxHeartbeats 0
/-! The head's facts. -/
namespace Any
open PySem PySem.Spec PyProof.Rows L2 RT LamX
open He (ga ma)
/-! ### tuples, dicts, constants -/
def tupB (K : PySem.W.Frag) (a : Addr) (xs : List V) : Bool := match K.lookup a with
  | some ⟨.type "tuple", _, .seq its _, _⟩ => decide (its.size ≤ 100) && He.relAll xs its.toList
  | _ => false
theorem tupB_ok {K : PySem.W.Frag} {a : Addr} {xs : List V} (h : tupB K a xs = true) (H : Hp) : SqT K H a xs := by
  unfold tupB at h
  split at h
  · rename_i dd its n sl e
    obtain ⟨h1, h2⟩ := band h
    refine .inr ⟨_, its, n, e, rfl, rfl, ?_, He.relAll_ok h2⟩
    have := of_decide_eq_true h1
    rw [sizeLine_eq]
    omega
  · cases h
def ltrB (K : PySem.W.Frag) : Bool := match PySem.W.nsIn K mainGlobals "LETTERS" with
  | some (some (.str x _)) => decide (x = letS)
  | _ => false
theorem ltrB_ok {K : PySem.W.Frag} (h : ltrB K = true) : ∃ t, PySem.W.nsIn K mainGlobals "LETTERS" = some (some (.str letS t)) := by
  unfold ltrB at h
  split at h
  · rename_i x t e
    rw [of_decide_eq_true h] at e
    exact ⟨t, e⟩
  · cases h
def keyB (K : PySem.W.Frag) (a : Addr) (keys : List Str) : Bool := match K.lookup a with
  | some ⟨_, _, .dict es _, _⟩ => es.toList.all fun e => match e.key with
    | .str x _ => decide (x ∈ keys)
    | _ => false
  | _ => false
theorem miss_ok {K : PySem.W.Frag} {a : Addr} {keys : List Str} (h : keyB K a keys = true) {k : Str} (n : k ∉ keys) : PySem.W.nsIn K a k = some none := by
  unfold keyB at h
  split at h
  · rename_i oc od es m sl e
    have each : ∀ x ∈ es.toList, ∃ y t, x.key = .str y t ∧ y ∈ keys := fun x hx => by
      have := List.all_eq_true.mp h x hx
      split at this
      · rename_i y t q
        exact ⟨y, t, q, of_decide_eq_true this⟩
      · cases this
    unfold PySem.W.nsIn
    rw [e]
    have f : es.toList.find? (fun x => x.key.isStr k) = none := List.find?_eq_none.mpr fun x hx z => by
      obtain ⟨y, t, q, m⟩ := each x hx
      rw [q] at z
      have : y = k := by simpa [Value.isStr] using z
      exact n (this ▸ m)
    have g : es.toList.any (fun x => x.refKey) = false := by
      rw [List.any_eq_false]
      intro x hx
      obtain ⟨y, t, q, m⟩ := each x hx
      simp [DictEntry.refKey, q]
    dsimp only
    rw [f]
    dsimp only
    rw [g]
    rfl
  · cases h
def chiB (K : PySem.W.Frag) : Bool := chiKeys.all fun k => match PySem.W.nsIn K (ga K "CHILDREN") k with
  | some (some (.ref a)) => tupB K a ((kidsAt k).map fun (i : Nat) => V.int i)
  | _ => false
theorem chiB_ok {K : PySem.W.Frag} (h : chiB K = true) : ∀ k ∈ chiKeys, ∃ u v, PySem.W.nsIn K (ga K "CHILDREN") k = some (some u) ∧ RelV v u ∧ chiSays K k v := fun k hk => by
  have := List.all_eq_true.mp h k hk
  split at this
  · rename_i a e
    exact ⟨.ref a, .ref a, e, rfl, a, rfl, fun H => tupB_ok this H⟩
  · cases this
def lenB (K : PySem.W.Frag) : Bool := lenKeys.all fun k => match PySem.W.nsIn K (ga K "LENGTHS") k with
  | some (some u) => He.relB (.int (lenAt k)) u
  | _ => false
theorem lenB_ok {K : PySem.W.Frag} (h : lenB K = true) : ∀ k ∈ lenKeys, ∃ u v, PySem.W.nsIn K (ga K "LENGTHS") k = some (some u) ∧ RelV v u ∧ lenSays k v := fun k hk => by
  have := List.all_eq_true.mp h k hk
  split at this
  · rename_i u e
    exact ⟨u, _, e, He.relB_ok this, rfl⟩
  · cases this
def eclB (K : PySem.W.Frag) (nm : Str) : Bool := PySem.W.keepIn K (.ref (ga K nm)) && (PySem.W.excIn K (ga K nm) [.type "ValueError", .type "Exception", .type "BaseException", .type "object"] "ValueError.__new__" &&
  (decide (PySem.W.subIn K (.ref (ga K nm)) (.type "BaseException") = some true) && decide (PySem.W.typeIn K (.ref (ga K nm)) = some (.type "type"))))
theorem eclB_ok {K : PySem.W.Frag} {mg : Str → Option Value} {nm : Str} (h : eclB K nm = true) (g : mg nm = some (.ref (ga K nm))) : EClass K mg nm := by
  obtain ⟨h1, h⟩ := band h
  obtain ⟨h2, h⟩ := band h
  obtain ⟨h3, h4⟩ := band h
  exact ⟨g, h1, h2, of_decide_eq_true h3, of_decide_eq_true h4⟩
def globB (K : PySem.W.Frag) (x : Str) : Bool := He.eqO (PySem.W.nsIn K mainGlobals x) (some (some (.ref (ga K x))))
/-! ### the hook -/
abbrev AlY : Type := AlX × List (Option (List (Option (Str × Int))))
def obsY (chk : PySem.W.Frag → Bool) (fn : List He.DefD) (ts : List He.Tab) (tf : List He.Defn) (g : Addr → Option Obj) (K : PySem.W.Frag) : AlY := (obsX (fun K => chk K && He.tabsB g tf K) fn K, ts.map fun t => He.dicW K (t.1 K))
def valY (fn : List He.DefD) (ts : List He.Tab) (w : World) : AlY := (valX fn, ts.map fun t => some (He.keysIn w.params t.2))
/-- what the hook tells -/
structure SaysY (chk : PySem.W.Frag → Bool) (fn : List He.DefD) (ts : List He.Tab) (tf : List He.Defn) (w : World) (h : Heap) (K : PySem.W.Frag) : Prop where
  x : obsX chk fn K = valX fn
  tab : ts.map (fun t => He.dicW K (t.1 K)) = ts.map fun t => some (He.keysIn w.params t.2)
  hd : ∀ p ∈ tf, PySem.W.codeHdIn K (He.cT K p).1 (He.cT K p).2 = true
  out : ∀ p ∈ tf, K.lookup (He.cT K p).2 = none
  emp : ∀ p ∈ tf, h.get? (He.cT K p).2 = some noObj
theorem saysY_of {chk : PySem.W.Frag → Bool} {fn : List He.DefD} {ts : List He.Tab} {tf : List He.Defn} {w : World} {h : Heap} {as : List Addr} (e : obsY chk fn ts tf h.get? (He.frT h.get? as) = valY fn ts w) : SaysY chk fn ts tf w h (He.frT h.get? as) := by
  have e1 : obsX (fun K => chk K && He.tabsB h.get? tf K) fn (He.frT h.get? as) = valX fn := congrArg (fun z : AlY => z.1) e
  have e2 : ts.map (fun t => He.dicW (He.frT h.get? as) (t.1 (He.frT h.get? as))) = ts.map fun t => some (He.keysIn w.params t.2) := congrArg (fun z : AlY => z.2) e
  obtain ⟨b1, b2⟩ := band (saysX_chk e1)
  have key : ∀ p ∈ tf, PySem.W.codeHdIn (He.frT h.get? as) (He.cT (He.frT h.get? as) p).1 (He.cT (He.frT h.get? as) p).2 = true ∧ ∃ o, h.get? (He.cT (He.frT h.get? as) p).2 = some o ∧ He.emptyTab o = true := fun p hp => by
    obtain ⟨z1, z2⟩ := band (List.all_eq_true.mp b2 p hp)
    refine ⟨z1, ?_⟩
    generalize h.get? (He.cT (He.frT h.get? as) p).2 = r at z2
    cases r with
    | none => cases z2
    | some o => exact ⟨o, rfl, z2⟩
  refine ⟨?_, e2, fun p hp => (key p hp).1, fun p hp => ?_, fun p hp => ?_⟩
  · have f1 : ((chk (He.frT h.get? as) && He.tabsB h.get? tf (He.frT h.get? as)) && fn.all fun d => d.ok (He.frT h.get? as)) = true := congrArg (fun z : AlX => z.1) e1
    have f2 : fn.map (fun d => He.fnW (He.frT h.get? as) d.at_) = fn.map He.DefD.val := congrArg (fun z : AlX => z.2) e1
    unfold obsX valX
    rw [b1, (band f1).2, f2]
    rfl
  · obtain ⟨_, o, q, z⟩ := key p hp
    exact He.frT_none q z
  · obtain ⟨_, o, q, z⟩ := key p hp
    rw [q, He.emptyTab_eq z]
def hookY (n : Nat) (chk : PySem.W.Frag → Bool) (fn : List He.DefD) (ts : List He.Tab) (tf : List He.Defn) : PySem.W.Hook where
  α := AlY
  obs := fun s => obsY chk fn ts tf s.heap.get? (He.frT s.heap.get? (adrs s.heap.get? n))
  val := fun w => valY fn ts w
  says := fun w h => ∃ K : PySem.W.Frag, K.In h ∧ SaysY chk fn ts tf w h K
  of := fun _ _ e => ⟨_, He.frT_in, saysY_of e⟩
  keeps := fun _ _ _ ⟨K, hK, c⟩ k => ⟨K, PySem.W.Frag.In.keeps hK k, ⟨c.x, c.tab, c.hd, c.out, fun p hp => k _ _ (c.emp p hp)⟩⟩
theorem obsY_eq {n : Nat} {chk : PySem.W.Frag → Bool} {fn : List He.DefD} {ts : List He.Tab} {tf : List He.Defn} (s : PySem.W.SharedT) : obsY chk fn ts tf (HandSHeadRun.getT s) (He.frT (HandSHeadRun.getT s) (adrs (HandSHeadRun.getT s) n)) = (hookY n chk fn ts tf).obs s.abs := by
  have e : HandSHeadRun.getT s = s.abs.heap.get? := funext (HandSHeadRun.getT_eq s)
  rw [e]
  rfl
/-! ### this law's facts -/

def free09 : List Str := (["abs", "int", "len", "isinstance", "bool", "str", "tuple", "list", "all", "set", "sorted", "reversed", "range", "enumerate", "repr", "min", "ValueError"] : List String).map Str.ofString
def defs09 : List Str := (["is_number", "is_between", "is_word", "is_row", "is_name", "is_headed", "children_of", "is_node", "is_each", "nodes_of", "is_tree", "names_only", "open_kind", "is_program", "is_program_with", "are_variables", "are_parts", "parts_of", "places", "places_of", "places_by_kind", "is_expression", "_law_begun", "_law_mixed", "_law_take", "_law_pick", "_law_shuffled", "_law_names", "_law_ops", "_law_leaf", "_law_expression", "_law_loop", "_law_program", "_law_places_in", "_law_bodies", "_law_places", "_law_paths", "_law_part_at", "_law_put_at", "_law_odd", "_law_bent", "_law_is_whole", "_law_is_one", "_law_is_name", "_law_is_expression", "_law_is_program", "_law_fits", "_law_reserved", "_law_error", "_law_more_parts", "law", "MakerError", "BadKind", "BadProgram", "ASKING", "OPERATIONS", "KEPT", "CHILDREN", "LENGTHS"] : List String).map Str.ofString
def chk09 (K : PySem.W.Frag) : Bool :=
  (free09.all fun x => He.eqO (PySem.W.nsIn K mainGlobals x) (some none)) && (sysB K && ((defs09.all (globB K)) && (ltrB K && (tupB K (ga K "KEPT") keptV && (tupB K (ga K "OPERATIONS") (Exq.opsN.map V.str) && (tupB K (ga K "ASKING") (([("order" : Str), "walk", "fill"] : List Str).map V.str) &&
    (keyB K (ga K "CHILDREN") chiKeys && (chiB K && (keyB K (ga K "LENGTHS") lenKeys && (lenB K && (eclB K "BadProgram" && (eclB K "BadKind" && (errB K (ga K "BadProgram") && (errB K (ga K "BadKind") &&
      ((decide (PySem.W.exmOne K (.ref (ga K "BadProgram")) (.ref (ga K "MakerError")) = some true) && decide (PySem.W.exmOne K (.ref (ga K "BadKind")) (.ref (ga K "MakerError")) = some true)) &&
        (decide (PySem.W.kitOne K (.ref (ga K "BadProgram")) (.ref (ga K "BadProgram")) = some true) && decide (PySem.W.kitOne K (.ref (ga K "BadKind")) (.ref (ga K "BadKind")) = some true)))))))))))))))))
def fn09 : List He.DefD := [defD ("is_number", none) "is_number" "is_number" sIsNumber,
  defD ("is_between", none) "is_between" "is_between" sIsBetween,
  defD ("is_word", none) "is_word" "is_word" sIsWord,
  defD ("is_row", none) "is_row" "is_row" sIsRow,
  defD ("is_name", none) "is_name" "is_name" sIsName,
  defD ("is_headed", none) "is_headed" "is_headed" sIsHeaded,
  defD ("children_of", none) "children_of" "children_of" sChildrenOf,
  defD ("is_node", none) "is_node" "is_node" sIsNode,
  defD ("is_each", none) "is_each" "is_each" sIsEach,
  defD ("nodes_of", none) "nodes_of" "nodes_of" sNodesOf,
  defD ("is_tree", none) "is_tree" "is_tree" sIsTree,
  defD ("names_only", none) "names_only" "names_only" sNamesOnly,
  defD ("open_kind", none) "open_kind" "open_kind" sOpenKind,
  defD ("is_program", none) "is_program" "is_program" sIsProgram,
  defD ("is_program_with", none) "is_program_with" "is_program_with" sIsProgramWith,
  defD ("are_variables", none) "are_variables" "are_variables" sAreVariables,
  defD ("are_parts", none) "are_parts" "are_parts" sAreParts,
  defD ("parts_of", none) "parts_of" "parts_of" sPartsOf,
  defD ("places", none) "places" "places" sPlaces,
  defD ("places_of", none) "places_of" "places_of" sPlacesOf,
  defD ("places_by_kind", none) "places_by_kind" "places_by_kind" sPlacesByKind,
  defD ("is_expression", none) "is_expression" "is_expression" sIsExpression,
  defD ("_law_begun", none) "_law_begun" "_law_begun" sLawBegun,
  defD ("_law_mixed", none) "_law_mixed" "_law_mixed" sLawMixed,
  defD ("_law_take", none) "_law_take" "_law_take" sLawTake,
  defD ("_law_pick", none) "_law_pick" "_law_pick" sLawPick,
  defD ("_law_shuffled", none) "_law_shuffled" "_law_shuffled" sLawShuffled,
  defD ("_law_names", none) "_law_names" "_law_names" sLawNames,
  defD ("_law_ops", none) "_law_ops" "_law_ops" sLawOps,
  defD ("_law_leaf", none) "_law_leaf" "_law_leaf" sLawLeaf,
  defD ("_law_expression", none) "_law_expression" "_law_expression" sLawExpression,
  defD ("_law_loop", none) "_law_loop" "_law_loop" sLawLoop,
  defD ("_law_program", none) "_law_program" "_law_program" sLawProgram,
  defD ("_law_places_in", none) "_law_places_in" "_law_places_in" sLawPlacesIn,
  defD ("_law_bodies", none) "_law_bodies" "_law_bodies" sLawBodies,
  defD ("_law_places", none) "_law_places" "_law_places" sLawPlaces,
  defD ("_law_paths", none) "_law_paths" "_law_paths" sLawPaths,
  defD ("_law_part_at", none) "_law_part_at" "_law_part_at" sLawPartAt,
  defD ("_law_put_at", none) "_law_put_at" "_law_put_at" sLawPutAt,
  defD ("_law_odd", none) "_law_odd" "_law_odd" sLawOdd,
  defD ("_law_bent", none) "_law_bent" "_law_bent" sLawBent,
  defD ("_law_is_whole", none) "_law_is_whole" "_law_is_whole" sLawIsWhole,
  defD ("_law_is_one", none) "_law_is_one" "_law_is_one" sLawIsOne,
  defD ("_law_is_name", none) "_law_is_name" "_law_is_name" sLawIsName,
  defD ("_law_is_expression", none) "_law_is_expression" "_law_is_expression" sLawIsExpression,
  defD ("_law_is_program", none) "_law_is_program" "_law_is_program" sLawIsProgram,
  defD ("_law_fits", none) "_law_fits" "_law_fits" sLawFits,
  defD ("_law_reserved", none) "_law_reserved" "_law_reserved" sLawReserved,
  defD ("_law_error", none) "_law_error" "_law_error" sLawError,
  defD ("_law_more_parts", none) "_law_more_parts" "_law_more_parts" sLawMoreParts,
  defD ("law", none) "law" "law" sLaw]
def ts09 : List He.Tab := [(fun K => ga K "CHILDREN", chiKeys), (fun K => ga K "LENGTHS", lenKeys)]
def tf09 : List He.Defn := [("law", none)]
theorem at09 {K : PySem.W.Frag} {mg : Str → Option Value} {chk : PySem.W.Frag → Bool} {fns : List He.DefD} (c : obsX chk fns K = valX fns) (n : Nat) (x : Str) (st : Stmt) (e : fns[n]? = some (defD (x, none) x x st)) (g : mg x = some (.ref (ga K x))) : At K mg x st := by
  obtain ⟨fd, F⟩ := saysX_def c n e
  exact ⟨⟨fd, fun_ofD (x := x) (q := x) (st := st) F⟩, g⟩
theorem facts09 {P : Program} {w : World} {K : PySem.W.Frag} {h : Heap} {mg : Str → Option Value} {f : Addr} (X : K.In h) (G : h.Ns mainGlobals mg) (hfa : mg ("law" : Str) = some (.ref f)) (c : SaysY chk09 fn09 ts09 tf09 w h K) :
    ∃ (fd : FuncData) (c0 Pt : Addr), h.get? Pt = some noObj ∧ K.lookup Pt = none ∧ PySem.W.codeHdIn K c0 Pt = true ∧ (∀ (s : Shared) (v : Value), BindsTo s fd ⟨[v], []⟩ [("script", v)]) ∧ ∀ base : Heap, K.In base → base.Ns mainGlobals mg → TabB base mg c0 Pt → FnG P w K mg base CX0 69 f fd ["script"] (spLaw K Pt) := by
  have ch := saysX_chk c.x
  obtain ⟨c1, ch⟩ := band ch
  obtain ⟨c2, ch⟩ := band ch
  obtain ⟨c3, ch⟩ := band ch
  obtain ⟨c4, ch⟩ := band ch
  obtain ⟨c5, ch⟩ := band ch
  obtain ⟨c6, ch⟩ := band ch
  obtain ⟨c7, ch⟩ := band ch
  obtain ⟨c8, ch⟩ := band ch
  obtain ⟨c9, ch⟩ := band ch
  obtain ⟨c10, ch⟩ := band ch
  obtain ⟨c11, ch⟩ := band ch
  obtain ⟨c12, ch⟩ := band ch
  obtain ⟨c13, ch⟩ := band ch
  obtain ⟨c14, ch⟩ := band ch
  obtain ⟨c15, ch⟩ := band ch
  obtain ⟨c16, c17⟩ := band ch
  have fr : ∀ x ∈ free09, mg x = none := fun x hx => PySem.W.mg_none_of X G (He.eqO_ok (List.all_eq_true.mp c1 x hx))
  have gl : ∀ x ∈ defs09, mg x = some (.ref (ga K x)) := fun x hx => PySem.W.mg_of X G (He.eqO_ok (List.all_eq_true.mp c3 x hx))
  obtain ⟨t, ht⟩ := ltrB_ok c4
  have T : TF mg := {
    abs := fr _ (by decide +kernel)
    int := fr _ (by decide +kernel)
    len := fr _ (by decide +kernel)
    isinstance := fr _ (by decide +kernel)
    bool := fr _ (by decide +kernel)
    str := fr _ (by decide +kernel)
    tuple := fr _ (by decide +kernel)
    list := fr _ (by decide +kernel)
    all := fr _ (by decide +kernel)
    set := fr _ (by decide +kernel)
    sorted := fr _ (by decide +kernel)
    reversed := fr _ (by decide +kernel)
    range := fr _ (by decide +kernel)
    enumerate := fr _ (by decide +kernel)
    repr := fr _ (by decide +kernel)
    min := fr _ (by decide +kernel)
    ValueError := fr _ (by decide +kernel)
  }
  have D : DS K mg := {
    aIsNumber := at09 c.x 0 "is_number" sIsNumber rfl (gl _ (by decide +kernel))
    aIsBetween := at09 c.x 1 "is_between" sIsBetween rfl (gl _ (by decide +kernel))
    aIsWord := at09 c.x 2 "is_word" sIsWord rfl (gl _ (by decide +kernel))
    aIsRow := at09 c.x 3 "is_row" sIsRow rfl (gl _ (by decide +kernel))
    aIsName := at09 c.x 4 "is_name" sIsName rfl (gl _ (by decide +kernel))
    aIsHeaded := at09 c.x 5 "is_headed" sIsHeaded rfl (gl _ (by decide +kernel))
    aChildrenOf := at09 c.x 6 "children_of" sChildrenOf rfl (gl _ (by decide +kernel))
    aIsNode := at09 c.x 7 "is_node" sIsNode rfl (gl _ (by decide +kernel))
    aIsEach := at09 c.x 8 "is_each" sIsEach rfl (gl _ (by decide +kernel))
    aNodesOf := at09 c.x 9 "nodes_of" sNodesOf rfl (gl _ (by decide +kernel))
    aIsTree := at09 c.x 10 "is_tree" sIsTree rfl (gl _ (by decide +kernel))
    aNamesOnly := at09 c.x 11 "names_only" sNamesOnly rfl (gl _ (by decide +kernel))
    aOpenKind := at09 c.x 12 "open_kind" sOpenKind rfl (gl _ (by decide +kernel))
    aIsProgram := at09 c.x 13 "is_program" sIsProgram rfl (gl _ (by decide +kernel))
    aIsProgramWith := at09 c.x 14 "is_program_with" sIsProgramWith rfl (gl _ (by decide +kernel))
    aAreVariables := at09 c.x 15 "are_variables" sAreVariables rfl (gl _ (by decide +kernel))
    aAreParts := at09 c.x 16 "are_parts" sAreParts rfl (gl _ (by decide +kernel))
    aPartsOf := at09 c.x 17 "parts_of" sPartsOf rfl (gl _ (by decide +kernel))
    aPlaces := at09 c.x 18 "places" sPlaces rfl (gl _ (by decide +kernel))
    aPlacesOf := at09 c.x 19 "places_of" sPlacesOf rfl (gl _ (by decide +kernel))
    aPlacesByKind := at09 c.x 20 "places_by_kind" sPlacesByKind rfl (gl _ (by decide +kernel))
    aIsExpression := at09 c.x 21 "is_expression" sIsExpression rfl (gl _ (by decide +kernel))
    aLawBegun := at09 c.x 22 "_law_begun" sLawBegun rfl (gl _ (by decide +kernel))
    aLawMixed := at09 c.x 23 "_law_mixed" sLawMixed rfl (gl _ (by decide +kernel))
    aLawTake := at09 c.x 24 "_law_take" sLawTake rfl (gl _ (by decide +kernel))
    aLawPick := at09 c.x 25 "_law_pick" sLawPick rfl (gl _ (by decide +kernel))
    aLawShuffled := at09 c.x 26 "_law_shuffled" sLawShuffled rfl (gl _ (by decide +kernel))
    aLawNames := at09 c.x 27 "_law_names" sLawNames rfl (gl _ (by decide +kernel))
    aLawOps := at09 c.x 28 "_law_ops" sLawOps rfl (gl _ (by decide +kernel))
    aLawLeaf := at09 c.x 29 "_law_leaf" sLawLeaf rfl (gl _ (by decide +kernel))
    aLawExpression := at09 c.x 30 "_law_expression" sLawExpression rfl (gl _ (by decide +kernel))
    aLawLoop := at09 c.x 31 "_law_loop" sLawLoop rfl (gl _ (by decide +kernel))
    aLawProgram := at09 c.x 32 "_law_program" sLawProgram rfl (gl _ (by decide +kernel))
    aLawPlacesIn := at09 c.x 33 "_law_places_in" sLawPlacesIn rfl (gl _ (by decide +kernel))
    aLawBodies := at09 c.x 34 "_law_bodies" sLawBodies rfl (gl _ (by decide +kernel))
    aLawPlaces := at09 c.x 35 "_law_places" sLawPlaces rfl (gl _ (by decide +kernel))
    aLawPaths := at09 c.x 36 "_law_paths" sLawPaths rfl (gl _ (by decide +kernel))
    aLawPartAt := at09 c.x 37 "_law_part_at" sLawPartAt rfl (gl _ (by decide +kernel))
    aLawPutAt := at09 c.x 38 "_law_put_at" sLawPutAt rfl (gl _ (by decide +kernel))
    aLawOdd := at09 c.x 39 "_law_odd" sLawOdd rfl (gl _ (by decide +kernel))
    aLawBent := at09 c.x 40 "_law_bent" sLawBent rfl (gl _ (by decide +kernel))
    aLawIsWhole := at09 c.x 41 "_law_is_whole" sLawIsWhole rfl (gl _ (by decide +kernel))
    aLawIsOne := at09 c.x 42 "_law_is_one" sLawIsOne rfl (gl _ (by decide +kernel))
    aLawIsName := at09 c.x 43 "_law_is_name" sLawIsName rfl (gl _ (by decide +kernel))
    aLawIsExpression := at09 c.x 44 "_law_is_expression" sLawIsExpression rfl (gl _ (by decide +kernel))
    aLawIsProgram := at09 c.x 45 "_law_is_program" sLawIsProgram rfl (gl _ (by decide +kernel))
    aLawFits := at09 c.x 46 "_law_fits" sLawFits rfl (gl _ (by decide +kernel))
    aLawReserved := at09 c.x 47 "_law_reserved" sLawReserved rfl (gl _ (by decide +kernel))
    aLawError := at09 c.x 48 "_law_error" sLawError rfl (gl _ (by decide +kernel))
    aLawMoreParts := at09 c.x 49 "_law_more_parts" sLawMoreParts rfl (gl _ (by decide +kernel))
    aLaw := at09 c.x 50 "law" sLaw rfl (gl _ (by decide +kernel))
    cMakerError := gl _ (by decide +kernel)
    cBadKind := gl _ (by decide +kernel)
    cBadProgram := gl _ (by decide +kernel)
  }
  have tab : ∀ (i : Nat) (t : He.Tab), ts09[i]? = some t → He.dicW K (t.1 K) = some (He.keysIn w.params t.2) := fun i t e => by
    have z : (ts09.map fun t => He.dicW K (t.1 K))[i]? = (ts09.map fun t => some (He.keysIn w.params t.2))[i]? := by rw [c.tab]
    rw [List.getElem?_map, List.getElem?_map, e] at z
    exact Option.some.inj z
  have B : TW K mg := ⟨⟨t, PySem.W.mg_of X G ht⟩, gl _ (by decide +kernel), tupB_ok c5⟩
  have W : TT K w mg := ⟨gl _ (by decide +kernel), tupB_ok c6, gl _ (by decide +kernel), ⟨He.dicW_ok (tab 0 _ rfl), chiB_ok c9, fun k n => miss_ok c8 n⟩, gl _ (by decide +kernel), ⟨He.dicW_ok (tab 1 _ rfl), lenB_ok c11, fun k n => miss_ok c10 n⟩⟩
  have A0 : TA0 K mg := ⟨gl _ (by decide +kernel), tupB_ok c7⟩
  have U : TLw K := ⟨sysB_ok c2, of_decide_eq_true (band c16).1, of_decide_eq_true (band c16).2, errB_ok c14, errB_ok c15, of_decide_eq_true (band c17).1, of_decide_eq_true (band c17).2⟩
  obtain ⟨fd, FD⟩ := saysX_def c.x 50 (d := defD ("law", none) "law" "law" sLaw) rfl
  have FL : Fun K "law" "law" sLaw (ga K "law") fd := fun_ofD (x := "law") (q := "law") (st := sLaw) FD
  have e := hfa.symm.trans (gl "law" (by decide +kernel))
  cases e
  have hc : fd.code = .ref (He.cT K (("law" : Str), none)).1 := by
    obtain ⟨oc, od, kV, doc, pm, an, cdv, ct, osl, e, lk, hcd⟩ := FL.ex
    obtain ⟨c0, rfl⟩ := He.codeIn_ref hcd
    have e2 : fd.code = .ref c0 := by rw [e]
    have e3 : He.codeOf K (("law" : Str), none) = c0 := He.codeOf_eq (p := (("law" : Str), none)) (fd := fd) lk e2
    show fd.code = .ref (He.codeOf K (("law" : Str), none))
    rw [e3, e2]
  have m : ((("law" : Str), none) : He.Defn) ∈ tf09 := List.mem_singleton.mpr rfl
  exact ⟨fd, _, _, c.emp _ m, c.out _ m, c.hd _ m, fun s v => (L2.FunD.bindsA (ps := ["script"]) FD fun _ _ _ _ _ _ us hl => match us, hl with | [_], _ => rfl) s [v] rfl, fun base _ _ tb =>
    ok_law FL hc tb D T B W A0 (eclB_ok c12 (gl _ (by decide +kernel))) (eclB_ok c13 (gl _ (by decide +kernel))) U⟩
abbrev R09 : PySem.W.OpenRow := PySem.W.OpenLaw.row PySem.Challenge.rw_anymaker_k09_expressions_programs_and_pl
def names09 : List Str := (["MakerError", "BadKind", "BadProgram", "ASKING", "OPERATIONS", "KEPT", "LETTERS", "CHILDREN", "LENGTHS", "is_number", "is_between", "is_word", "is_row", "is_name", "is_headed", "children_of", "is_node", "is_each", "nodes_of", "is_tree", "names_only", "open_kind", "is_program", "is_program_with", "are_variables", "are_parts", "parts_of", "places", "places_of", "places_by_kind", "is_expression", "_law_begun", "_law_mixed", "_law_take", "_law_pick", "_law_shuffled", "_law_names", "_law_ops", "_law_leaf", "_law_expression", "_law_loop", "_law_program", "_law_places_in", "_law_bodies", "_law_places", "_law_paths", "_law_part_at", "_law_put_at", "_law_odd", "_law_bent", "_law_is_whole", "_law_is_one", "_law_is_name", "_law_is_expression", "_law_is_program", "_law_fits", "_law_reserved", "_law_error", "_law_more_parts"] : List String).map Str.ofString
abbrev hk09 : PySem.W.Hook := hookY 6 chk09 fn09 ts09 tf09
def ob09 (s : PySem.W.SharedT) : AlY := obsY chk09 fn09 ts09 tf09 (HandSHeadRun.getT s) (He.frT (HandSHeadRun.getT s) (adrs (HandSHeadRun.getT s) 6))
theorem ob09_eq (s : PySem.W.SharedT) : ob09 s = hk09.obs s.abs := obsY_eq s
end Any
set_option Elab.async false
set_option linter.all false
set_option maxRecDepth 100000
set_option maxHeartbeats 0
namespace Any
open PySem PySem.Spec PyProof.Rows L2
theorem run09f (w : World) : HandSHeadRun.RunEq R09 (PySem.W.view R09.prog [66]) hk09 ob09 16000 names09 (w.withFollow "special-get-raises" false) := by
  intro os
  kernel_rfl
theorem run09t (w : World) : HandSHeadRun.RunEq R09 (PySem.W.view R09.prog [66]) hk09 ob09 16000 names09 (w.withFollow "special-get-raises" true) := by
  intro os
  kernel_rfl
theorem run09 (w : World) : HandSHeadRun.RunEq R09 (PySem.W.view R09.prog [66]) hk09 ob09 16000 names09 w := PySem.W.byRow2 "special-get-raises" (P := fun w => HandSHeadRun.RunEq R09 (PySem.W.view R09.prog [66]) hk09 ob09 16000 names09 w) run09f run09t w
end Any
open PySem PySem.W PySem.Calls PyProof.Rows
theorem PySem.Challenge.cw_anymaker_k09_expressions_programs_and_pl_holds : PySem.Challenge.rw_anymaker_k09_expressions_programs_and_pl.Holds := by
  w_on; o_law
  refine HandSHeadRun.head_any (r := OpenLaw.row PySem.Challenge.rw_anymaker_k09_expressions_programs_and_pl) (q := view (OpenLaw.row PySem.Challenge.rw_anymaker_k09_expressions_programs_and_pl).prog [66]) (H := Any.hk09) (ob := Any.ob09) (M := 16000) (loose := Any.names09) (d := HandSHeadRun.topDef (OpenLaw.row PySem.Challenge.rw_anymaker_k09_expressions_programs_and_pl).prog 66) (kwd := []) Any.ob09_eq
    (by kernel_rfl) (fun s => by kernel_rfl) Any.run09 (by kernel_rfl) (by kernel_rfl) (by kernel_rfl) (by rfl) (by first | assumption | decide +kernel) (by decide +kernel) ⟨rfl, rfl, rfl, rfl, rfl, by decide +kernel⟩ ?hw ?hc
  case hw => w_witness2
  case hc =>
    refine Any.walkT (l := PySem.Challenge.rw_anymaker_k09_expressions_programs_and_pl) (n := 63) (k := 69) (x := "script") rfl (by decide) (by kernel_rfl) ⟨rfl, by decide, by decide⟩ ?F
    intro w mg fa h Y G hmg0
    obtain ⟨K, KX, c⟩ := Y
    have hmg : mg ("law" : PySem.Str) = some (.ref fa) := by
      have e : (HandSHeadRun.topDef (OpenLaw.row PySem.Challenge.rw_anymaker_k09_expressions_programs_and_pl).prog 66).name = ("law" : PySem.Str) := by kernel_rfl
      rw [← e]
      exact hmg0
    obtain ⟨fd, c0, Pt, g1, g2, g3, hb, hF⟩ := Any.facts09 (P := (PySem.Challenge.rw_anymaker_k09_expressions_programs_and_pl).prog) (w := w) KX G hmg c
    exact ⟨K, fd, c0, Pt, Any.spLaw K Pt, KX, g1, g2, g3, hb, fun H a ns hl ht hS => ⟨a, ns, rfl, hS, hl, fun p hp => by rw [List.mem_singleton.mp hp]; exact LamX.TabS.nil ht, fun _ => rfl⟩, hF⟩
