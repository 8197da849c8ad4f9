import PyProof.Rows.All
import Wide.All
import OpenK.AllK
import Wide.FinOn
import HandS.ForMost
import HandS.Exc
import HandS.WordsExc
import HandS.Evl
import PyProof.ReprRoads
import PyProof.ReprText
import PyProof.ReprBulk
import HandS.SetKeys
import HandS.Strs
import PyProof.Rows.SetFrom
import HandS.Wide
import HandS.Style
import HandS.IsInst
import HandS.More
import HandS.Walk
import HandS.DictComp
import HandS.SortRule
import PyProof.Rows.SortKeyStr
import HandS.Flow
import HandS.SetFor
import HandS.SetBool
import KE.KSortKeySt
import HandS.Iter
import HandS.Deep
import PyProof.EqAt
import PyProof.EqKinds
import PyProof.TupleCall
import Open.SpecLaws
import KE.OsGo
import HandS.ForSpec
import HandS.ExcIs
import HandS.Defaults
import KE.KDictZip
import HandS.NoneIn
import KE.DatumOrd
import KE.SortData
import HandS.SortKw
import PySem.Challenge.RW_deskkeepers_k63_whole_great_comparisons
set_option Elab.async false
set_option linter.all false
set_option maxRecDepth 100000
set_option maxHeartbeats 2000000
namespace Dk
open PySem PySem.Spec PyProof.Rows L2

/-! ### repr of data, where no repr is running -/
def rRepr (K : PySem.W.Frag) : List V → Hp → VK → Prop := fun xs H Q =>
  ∃ v d, xs = [v] ∧ Dp K H v d ∧ d.showable = true ∧ d.hasDict = false ∧ d.depth ≤ 60 ∧ d.shown.length ≤ sizeLine ∧ Q (.str d.shown) H
theorem cr_repr {X : Cx} (gd : X.A.guards = some []) (hu : X.A.units + 64 < cLine) : CallR X (.builtin "repr") (rRepr X.K) := by
  intro pins s σ H xs us Q I r h
  obtain ⟨v, d, rfl, hd, hs, hn, hdep, hz, q⟩ := h
  obtain ⟨u, rfl, ru⟩ := vals1 r
  obtain ⟨as, rd⟩ := Dp.reads I d v u hd ru
  cases rd with
  | none =>
    refine PySem.P.repr_of_none ⟨.str _, H, I.tok _, ⟨_, rfl⟩, ?_⟩
    simpa only [PyData.shown] using q
  | bool b =>
    refine PySem.P.repr_of_bool ⟨.str _, H, I.tok _, ⟨_, rfl⟩, ?_⟩
    simpa only [PyData.shown] using q
  | int i t =>
    refine PySem.P.repr_of_int (by simpa [PyData.showable] using hs) ⟨.str _, H, I.tok _, ⟨_, rfl⟩, ?_⟩
    simpa only [PyData.shown] using q
  | str x t =>
    refine PySem.P.repr_of_str ⟨.str _, H, I.tok _, ⟨_, rfl⟩, ?_⟩ (by simpa only [PyData.shown] using hz)
    simpa only [PyData.shown] using q
  | list h1 h2 h3 h4 =>
    exact repr_of_reads' (.list h1 h2 h3 h4) hs (PyData.noDict_hsm hn) gd (by omega) (fun _ _ e => e) (fun h' u tk k => ⟨.str _, H, I.kept k, ⟨_, rfl⟩, q⟩) hz
  | tuple h1 h2 h3 h4 =>
    exact repr_of_reads' (.tuple h1 h2 h3 h4) hs (PyData.noDict_hsm hn) gd (by omega) (fun _ _ e => e) (fun h' u tk k => ⟨.str _, H, I.kept k, ⟨_, rfl⟩, q⟩) hz
  | dict h1 h2 h3 h4 h5 => exact absurd hn (by simp only [PyData.hasDict]; decide)

/-! ### a promise that is kept where no repr is running -/
structure FnG (P : Program) (w : World) (K : PySem.W.Frag) (mg : Str → Option Value) (base : Heap) (CX : CXT) (k : Nat) (f : Addr) (fd : FuncData) (ps : List Str) (sp : Sp) : Prop where
  many : ∀ vs H Q E, sp vs H Q E → vs.length = ps.length
  go : ∀ {A : Around} {outer : List Env} {s : Shared} {H : Hp} {args : Args} {us : List Value} {vs : List V} {Q : VK} {E : XK}, A.guards = some [] → Room k A → Env0 P w K mg base A outer s H →
    BindsTo s fd args (ps.zip us) → Vals vs us → sp vs H Q E → codeAny (model P w) A (.call (.ref f) args) (CR CX outer P w H s Q E) s
section
variable {P : Program} {w : World} {K : PySem.W.Frag} {mg : Str → Option Value} {base : Heap} {CX : CXT} {k : Nat} {f : Addr} {fd : FuncData} {N ps : List Str} {sp : Sp} {x qual : Str} {st : Stmt}
theorem FnG.of (F : FnOk P w K mg base CX k f fd ps sp) : FnG P w K mg base CX k f fd ps sp :=
  ⟨F.len, fun _ hr e0 hb r h => F.run _ _ _ _ _ _ _ _ _ hr e0 hb r h⟩
theorem FnG.mono {j : Nat} (F : FnG P w K mg base CX j f fd ps sp) (h : j ≤ k) : FnG P w K mg base CX k f fd ps sp :=
  ⟨F.many, fun g hr => F.go g (hr.mono h)⟩
/-- a body's end, told to the caller -/
theorem body_end {A : Around} {outer : List Env} {s s' : Shared} {H : Hp} {Q : VK} {E : XK} {cdv : Value} : ∀ fl : Flow,
    SP (cxOf CX P w K mg base N qual (defScope st) f cdv A outer s H E) [] { nx := fun _ H' => Q .non H', rt := Q } fl s' →
    CR CX outer P w H s Q E (.ok (.ret (match fl with | .ret v => v | _ => .none))) s' := by
  intro fl h
  cases fl with
  | next => exact let ⟨_, _, J, q⟩ := h; ⟨.non, _, J.os, J.bare, J.base, J.hok, rfl, q⟩
  | ret u => exact let ⟨_, _, _, J, rv, q⟩ := h; ⟨_, _, J.os, J.bare, J.base, J.hok, rv, q⟩
  | brk => exact let ⟨_, _, _, q⟩ := h; q.elim
  | cont => exact let ⟨_, _, _, q⟩ := h; q.elim
theorem okG (F : Fun K x qual st f fd) (S : FnScope N ps (defScope st)) (many : ∀ vs H Q E, sp vs H Q E → vs.length = ps.length)
    (body : ∀ (cdv : Value) (A : Around) (outer : List Env) (s : Shared) (H : Hp) (vs : List V) (Q : VK) (E : XK), (cxOf CX P w K mg base N qual (defScope st) f cdv A outer s H E).A.guards = some [] →
      Room k (cxOf CX P w K mg base N qual (defScope st) f cdv A outer s H E).A → sp vs H Q E →
      ∃ t, PSs (cxOf CX P w K mg base N qual (defScope st) f cdv A outer s H E) (defBody st) t ∧ t { nx := fun _ H' => Q .non H', rt := Q } (start N vs) H) :
    FnG P w K mg base CX (k + 1) f fd ps sp where
  many := many
  go := by
    obtain ⟨_, _, _, _, _, _, cdv, _, _, rfl, lk, hcd⟩ := F.ex
    intro A outer s H args us vs Q E gd room e0 hb r h
    have keep := fun b o e => (e0.bs b o e).1
    have inK : K.In s.heap := e0.mod.kin.keeps keep
    have kinds : ∀ y ∈ ps.zip us, (defScope st).names.lookup y.1 = some .local ∨ ((defScope st).names.lookup y.1 = some .cell ∧ ((cellsFrom (s.heap.objs.size + 1) (defScope st).names []).lookup y.1).isSome = true) :=
      fun y hy => (S.par y.1 (List.of_mem_zip hy).1).imp id fun q => ⟨q, PySem.W.cellsFrom_some _ _ _ (.inl q)⟩
    refine codeAny_call_function room.depth (inK _ _ lk) rfl S.co S.gen rfl (PySem.W.codeRec_of inK hcd) (hb _ _ _ _ (wpAny_newFunctionEnv_cells S.kind kinds ?_))
    rintro env rfl s1 inC
    refine ⟨(e0.mod.nolimit.keeps keep).keeps inC.toInCall.keep, codeAny_func ?_⟩
    obtain ⟨t, ht, hq⟩ := body cdv A outer s H vs Q E gd (room.deeper _) h
    exact wpAny_mono (ht.run [] s1 (start N vs) H _ (inv_start S room.hd e0 (many _ _ _ _ h) r inC) hq) (fun fl s' q => body_end fl q) (fun _ _ q => q)
end
section
variable {P : Program} {w : World} {K : PySem.W.Frag} {mg : Str → Option Value} {base : Heap} {CX : CXT} {k : Nat} {f : Addr} {fd : FuncData} {N ps : List Str} {sp : Sp} {x qual : Str} {st : Stmt}
/-- .. of a def that lets no exception out -/
theorem okN (F : Fun K x qual st f fd) (S : FnScope N ps (defScope st)) (many : ∀ vs H Q E, sp vs H Q E → vs.length = ps.length)
    (body : ∀ (cdv : Value) (A : Around) (outer : List Env) (s : Shared) (H : Hp) (vs : List V) (Q : VK) (E : XK), (cxOf CX0 P w K mg base N qual (defScope st) f cdv A outer s H E).nox.A.guards = some [] →
      Room k (cxOf CX0 P w K mg base N qual (defScope st) f cdv A outer s H E).nox.A → sp vs H Q E →
      ∃ t, PSs (cxOf CX0 P w K mg base N qual (defScope st) f cdv A outer s H E).nox (defBody st) t ∧ t { nx := fun _ H' => Q .non H', rt := Q } (start N vs) H) :
    FnG P w K mg base CX0 (k + 1) f fd ps sp :=
  okG F S many fun cdv A outer s H vs Q E gd room h => let ⟨t, h1, h2⟩ := body cdv A outer s H vs Q E gd room h; ⟨t, h1.nox, h2⟩
end
section
variable {X : Cx} {CX : CXT} {k : Nat} {f C : Addr} {fd : FuncData} {ps : List Str} {sp : Sp} {dvs : List V} {ds : List Value} {E : XK} {x m : Str} {p pos : Pos} {e o : Expr} {es : List Expr} {t : TA}
theorem run_fnG {pins : List (Addr × Obj)} {σ : L2.St} {H : Hp} {s : Shared} {Q : VK} {us : List Value} {vs : List V} (F : FnG X.prog X.w X.K X.mg X.base CX k f fd ps sp) (gd : X.A.guards = some []) (room : Room k X.A)
    (hb : Binds X.K fd ps []) (hx : Passes CX X E) (I : Inv X pins σ H s) (r : Vals vs us) (h : sp vs H Q E) : wpAny (model X.prog X.w) X.A (call (.ref f) us) (EP X pins σ Q) X.xe s := by
  have bnd := hb s us I.kIn (by rw [List.append_nil, ← r.length]; exact F.many _ _ _ _ h)
  rw [List.append_nil] at bnd
  refine wpAny_call (codeAny_mono (F.go gd room I.env0 bnd r h) ?_)
  intro res s' hq
  match res, hq with
  | .error e, hq => exact hx _ _ _ _ _ _ I hq
  | .ok (.ret u), hq => exact I.after hq
  | .ok .next, hq => exact hq.elim
  | .ok .brk, hq => exact hq.elim
  | .ok .cont, hq => exact hq.elim
/-- f(e, ..), f a def of such a promise -/
theorem pe_callG (F : FnG X.prog X.w X.K X.mg X.base CX k f fd ps sp) (gd : X.A.guards = some []) (room : Room k X.A) (hg : Gl X x) (hm : X.mg x = some (.ref f)) (hk : PySem.W.keepIn X.K (.ref f) = true) (hb : Binds X.K fd ps [])
    (hx : Passes CX X E) (ha : PA X (e :: es) t) (h1 : (x == ("__debug__" : Str)) = false := by decide) (h2 : starEach (e :: es) X.env = (false, eval e X.env) :: starEach es X.env := by rfl) (h3 : (backTo pos (starEach es X.env)).any (·.1) = false := by rfl) :
    PE X (.Call (.Name x p) (e :: es) [] pos) (tCall sp [] E t) where
  run := fun pins s σ H Q I h => wpAny_Call_Name_kw (ld_glob I hg hm
    (PySem.W.callWith_K (h₀ := X.base) I.ok.mod.kin hk (thn (ha.run pos pins s σ H _ I h) fun us s1 ⟨vs, H1, I1, r, q⟩ => ⟨I1.kIn, run_fnG F gd room hb hx I1 r (by rw [← List.append_nil vs]; exact q)⟩) h2 h3) h1)
/-- the list's item for op= -/
theorem pg_item : PGet X (rIxL X.K) := by
  intro pins s σ H o i ov iv Q I ro ri h
  obtain ⟨p, xs, j, v, rfl, rfl, hs, hv, q⟩ := h
  cases ro
  obtain ⟨t, rfl⟩ := ri
  obtain ⟨its, r, pl, hz⟩ := I.list hs
  obtain ⟨n, h1, h2, h3, h4, h5⟩ := atI_get hv
  obtain ⟨w, ew, rw'⟩ := r.get h2
  have hl := r.length
  have hn := line63
  by_cases h0 : 0 ≤ j
  · have hj : j.toNat = n := by
      rw [seqIndex_of h0 h5] at h1
      exact Option.some.inj h1
    exact wpAny_getItem_list pl.isList h0 (by omega) (by rw [hj]; simpa using ew) ⟨v, H, I, rw', q⟩
  · have hj : (j + (its.toArray.size : Int)).toNat = n := by
      rw [seqIndex_neg (by omega) h4] at h1
      rw [List.size_toArray, ← hl]
      exact Option.some.inj h1
    exact wpAny_getItem_list_neg pl.isList (by omega) (by rw [List.size_toArray] <;> omega) (by omega) (by rw [hj]; simpa using ew) ⟨v, H, I, rw', q⟩
end
end Dk

set_option Elab.async false
set_option linter.all false
set_option maxRecDepth 100000
set_option maxHeartbeats 2000000
namespace Dk
open PySem PySem.Spec PyProof.Rows L2

/-! ### the end of a law row, for a promise of FnG -/
/-- the script alone is tracked, where the module has it not -/
def onlyScript (K : PySem.W.Frag) (a : Addr) (o : Obj) (xs : List V) : Hp := fun b => if b = a ∧ K.lookup a = none then some (.frz o (.lst xs)) else none
theorem os_some {K : PySem.W.Frag} {a b : Addr} {o : Obj} {xs : List V} {u : HO} (h : onlyScript K a o xs b = some u) : b = a ∧ K.lookup a = none ∧ u = .frz o (.lst xs) := by
  unfold onlyScript at h
  split at h
  · rename_i c; exact ⟨c.1, c.2, (Option.some.inj h).symm⟩
  · cases h
theorem os_none {K : PySem.W.Frag} {a b : Addr} {o : Obj} {xs : List V} (h : b ≠ a ∨ K.lookup a ≠ none) : onlyScript K a o xs b = none := by
  cases e : onlyScript K a o xs b with
  | none => rfl
  | some u =>
    obtain ⟨h1, h2, _⟩ := os_some e
    exact (h.elim (fun q => q h1) fun q => q h2).elim
theorem law_callG {P : Program} {w : World} {K : PySem.W.Frag} {mg mb : Str → Option Value} {CX : CXT} {k : Nat} {fa a : Addr} {fd : FuncData} {x : Str} {sp : Sp} {s : Shared} {vs : List Value} {ns : List Int}
    (inK : K.In s.heap) (hmg : s.heap.Ns mainGlobals mg) (hmb : s.heap.Ns builtinsNs mb) (hbb : ∀ x : Str, x ≠ "__name__" → mb x = bootBuiltins x) (hlim : s.heap.NoLimit) (hgens : s.gens = #[])
    (ha : s.heap.get? a = some { cls := .type "list", data := .seq vs.toArray }) (hi : IntsAre vs ns) (hl : ns.length ≤ sizeLine) (room : Room k callerA)
    (F : ∀ base : Heap, K.In base → base.Ns mainGlobals mg → FnG P w K mg base CX k fa fd [x] sp) (hbind : ∀ (s : Shared) (u : Value), BindsTo s fd ⟨[u], []⟩ [(x, u)])
    (hsp : ∀ H : Hp, SqL K H a (ns.map V.int) → (∀ b, H b ≠ none → b = a) → sp [.ref a] H (fun v _ => v = .bl true) fun _ _ _ => False) (hCX : ∀ H e s', CX [] H s (fun _ _ _ => False) e s' → False) :
    codeAny (model P w) callerA (.call (.ref fa) ⟨[.ref a], []⟩) (fun r s' => r = .ok (.ret (.bool true)) ∧ OldK s.heap s'.heap ∧ s'.os = s.os ∧ AllBare s'.gens) s := by
  have rv := vals_ints hi
  have hlen : vs.length ≤ sizeLine := by rw [hi.length]; exact hl
  have len2 : (ns.map V.int).length ≤ sizeLine := by rw [List.length_map]; exact hl
  let o : Obj := { cls := .type "list", data := .seq vs.toArray }
  let H := onlyScript K a o (ns.map V.int)
  have notSeq : ∀ {b : Addr} {ob : Obj} {es : Array DictEntry} {ep : Nat}, s.heap.get? b = some ob → ob.data = .dict es ep → H b = none := by
    intro b ob es ep e d
    refine os_none (.inl ?_)
    rintro rfl
    rw [ha] at e
    cases e
    have d' : Data.seq vs.toArray _ = Data.dict es ep := d
    cases d'
  have ns2 : ∀ {b : Addr} {m : Str → Option Value}, s.heap.Ns b m → (hidT s.heap H).Ns b m := fun ⟨ob, es, ep, e, d, r⟩ => ⟨ob, es, ep, hidT_get e (notSeq e d), d, r⟩
  have inB : K.In (hidT s.heap H) := fun b ob e => hidT_get (inK b ob e) (by
    cases q : H b with
    | none => rfl
    | some u =>
      obtain ⟨rfl, h2, _⟩ := os_some q
      rw [h2] at e
      cases e)
  have hok : HOk P w H s.heap := fun b u e => by
    obtain ⟨rfl, _, rfl⟩ := os_some e
    exact ⟨ha, len2, vs, _, rv, ha⟩
  have hS : SqL K H a (ns.map V.int) := by
    cases q : K.lookup a with
    | none => exact .inl (.inr ⟨o, if_pos ⟨rfl, q⟩⟩)
    | some ob =>
      have e := inK a ob q
      rw [ha] at e
      cases e
      exact .inr ⟨_, vs.toArray, _, q, rfl, rfl, rfl, by rw [List.size_toArray]; exact hlen, by simpa using rv⟩
  have e0 : Env0 P w K mg (hidT s.heap H) callerA [] s H :=
    { frames := rfl, mod := ⟨inB, ns2 hmg, ⟨mb, ns2 hmb, hbb⟩, let ⟨mc, h1, h2⟩ := hlim; ⟨mc, ns2 h1, h2⟩⟩, bs := fun b ob e => of_hidT e, bsz := Nat.le_of_eq (hidT_size _ _), funs := trivial
      frf := fun b hb => absurd (show b ∈ ([] : List Addr) from hb) (by simp), hok := hok, bare := .of_eq hgens }
  refine codeAny_mono ((F _ inB (ns2 hmg)).go (us := [.ref a]) (vs := [.ref a]) (args := ⟨[.ref a], []⟩) rfl room e0 (hbind s (.ref a)) (.cons rfl .nil) (hsp H hS fun b hb => ?_)) ?_
  · cases q : H b with
    | none => exact absurd q hb
    | some u => exact (os_some q).1
  · intro r s' h
    match r, h with
    | .error e, h => exact (hCX H e s' h).elim
    | .ok (.ret u), h =>
      obtain ⟨v, H', os, bare, un, hok', r', q⟩ := h
      have q' : v = .bl true := q
      subst q'
      have r2 : u = Value.bool true := r'
      subst r2
      refine ⟨rfl, OldK.of_keep fun b ob e => ?_, os, bare⟩
      cases q : H b with
      | none => exact un.keep b ob e q (by intro z; exact absurd (show b ∈ ([] : List Addr) from z) (by simp)) (by simp)
      | some u =>
        obtain ⟨rfl, _, rfl⟩ := os_some q
        have kept := hok' b _ (un.frzs b o _ q)
        rw [ha] at e
        cases e
        exact kept.1
    | .ok .next, h => exact h.elim
    | .ok .brk, h => exact h.elim
    | .ok .cont, h => exact h.elim
theorem walk_ofG {l : PySem.W.OpenLaw} {n k : Nat} {q : Program} {loose : List Str} {XP : (Str → Option Value) → Heap → Prop} {YP : World → Heap → Prop} {d : DefRec} {K : Params → PySem.W.Frag} {CX : World → CXT} {sp : World → Sp} {x : Str}
    (hn : l.most = some n) (hn2 : n ≤ sizeLine) (hdf : d.params.defaults = []) (room : Room k callerA) (hY : ∀ (w : World) (h : Heap), YP w h → (K w.params).In h)
    (F : ∀ (w : World) (mg : Str → Option Value) (fa : Addr) (h : Heap), (K w.params).In h → h.Ns mainGlobals mg → mg d.name = some (.ref fa) →
      ∃ fd : FuncData, (∀ (s : Shared) (u : Value), BindsTo s fd ⟨[u], []⟩ [(x, u)]) ∧
        ∀ base : Heap, (K w.params).In base → base.Ns mainGlobals mg → FnG l.prog w (K w.params) mg base (CX w) k fa fd [x] (sp w))
    (hsp : ∀ (w : World) (H : Hp) (a : Addr) (ns : List Int), ns.length ≤ n → SqL (K w.params) H a (ns.map V.int) → (∀ b, H b ≠ none → b = a) → sp w [.ref a] H (fun v _ => v = .bl true) fun _ _ _ => False)
    (hCX : ∀ (w : World) (H : Hp) (s : Shared) (e : Value) (s' : Shared), CX w [] H s (fun _ _ _ => False) e s' → False) :
    PySem.W.WalkO q loose XP YP l.row.toRowW d [] (fun f vs => PySem.call f vs) := by
  refine Att.attach_call hn hdf ?_
  intro w s0 s1 mg mb fa o pm cd doc a vs ns G Y _ _ _ hmg hobj hints hlen hg
  have KX := hY w _ Y
  obtain ⟨fd, hb, hF⟩ := F w mg fa _ KX G.T.g hmg
  exact law_callG KX G.T.g G.T.b G.T.builtins G.T.nolimit hg hobj hints (Nat.le_trans hlen hn2) room hF hb (fun H hS hO => hsp w H a ns hlen hS hO) fun H e s' => hCX w H s1 e s'
end Dk

set_option Elab.async false
set_option linter.all false
set_option maxRecDepth 100000
set_option maxHeartbeats 3200000
namespace Dk
open PySem PySem.Spec PyProof.Rows L2

/-! ### set(xs), xs a list of ints and texts -/
def hasK (l : List Key) (k : Key) : Bool := l.any fun x => decide (x = k)
theorem hasK_iff {l : List Key} {k : Key} : hasK l k = true ↔ k ∈ l := by simp [hasK]
theorem hasK_no {l : List Key} {k : Key} : hasK l k = false ↔ k ∉ l := by rw [← hasK_iff]; simp
theorem setOf_congr {prog : Program} {w : World} {h : Heap} {a : Addr} {S T : Key → Bool} {n m : Nat} (hS : h.SetOf (mixKind prog w) a S n) (e : ∀ k, S k = T k) (en : n = m) : h.SetOf (mixKind prog w) a T m := by
  have q : S = T := funext e
  subst q; subst en; exact hS
def dstep (l : List Key) (k : Key) : List Key := if hasK l k = true then l else l ++ [k]
def dd (ks : List Key) : List Key := ks.foldl dstep []
theorem dd_snoc (ks : List Key) (k : Key) : dd (ks ++ [k]) = dstep (dd ks) k := by unfold dd; rw [List.foldl_append]; rfl
theorem mem_dstep {l : List Key} {k j : Key} : j ∈ dstep l k ↔ j ∈ l ∨ j = k := by
  unfold dstep
  split
  · rename_i h
    exact ⟨.inl, fun q => q.elim id fun e => e ▸ hasK_iff.mp h⟩
  · simp
theorem foldl_dstep_len (ks : List Key) : ∀ l : List Key, l.length ≤ (ks.foldl dstep l).length := by
  induction ks with
  | nil => exact fun l => Nat.le_refl _
  | cons k r ih =>
    intro l
    refine Nat.le_trans ?_ (ih (dstep l k))
    unfold dstep
    split
    · exact Nat.le_refl _
    · simp
theorem dd_take_le (ks : List Key) (i : Nat) : (dd (ks.take i)).length ≤ (dd ks).length := by
  conv => rhs; rw [← List.take_append_drop i ks]
  unfold dd
  rw [List.foldl_append]
  exact foldl_dstep_len _ _
theorem take_snoc {α : Type} {l : List α} {i : Nat} {a : α} (h : l[i]? = some a) : l.take (i + 1) = l.take i ++ [a] := by
  rw [List.take_add_one, h]; rfl
section
variable {prog : Program} {w : World} {A : Around} {R : Result → Shared → Prop} {I : Addr} {fp wr : List Addr} {G : Array GenState → Array GenState → Prop} {n : Nat} {P : Nat → Value → Prop} {St : Nat → Shared → Prop}
def InDD (ks : List Key) (i : Nat) : Key → Bool := fun j => hasK (dd (ks.take i)) j
theorem set_loop (W : WalksS prog w A.in1 I fp wr G n P St) (S : Addr) (hSf : S ∉ fp) (ks : List Key) (hval : ∀ i v, P i v → ∃ k, ks[i]? = some k ∧ (mixKind prog w).is k v = true ∧ v.scannable = true) (hb : (dd ks).length + 1 < scanBound) (hn : ks.length = n) :
    ∀ (k i : Nat) (s : Shared), n - i = k → i ≤ n → St i s → s.heap.SetOf (mixKind prog w) S (InDD ks i) (dd (ks.take i)).length →
      (∀ s', Moved (S :: wr) G s s' → s'.heap.SetOf (mixKind prog w) S (InDD ks n) (dd (ks.take n)).length → R (.ok (.ret .none)) s') →
      codeAny (model prog w) A (.builtin "set.update.loop" ⟨[.ref S, .ref I], []⟩) R s := by
  have away : S ∉ wr := fun h => hSf (W.sub _ h)
  have more : ∀ b ∈ wr, b ∈ S :: wr := fun b hb => List.mem_cons_of_mem _ hb
  have stays : ∀ {s s' : Shared} {T : Key → Bool} {c : Nat}, Moved wr G s s' → s.heap.SetOf (mixKind prog w) S T c → s'.heap.SetOf (mixKind prog w) S T c := fun hm ⟨o, es, ep, t, ho, rest⟩ => ⟨o, es, ep, t, hm.heap S _ away ho, rest⟩
  intro k
  induction k with
  | zero =>
    intro i s hk hi hst hS hR
    obtain rfl : i = n := by omega
    refine codeAny_builtin F.entry_set_update_loop ?_
    rw [Around.under_plainId F.plain_set_update_loop _]
    show wpAny _ A.in1 (pyNext (.ref I) >>= _) _ _ s
    refine wpAny_bind (W.done s _ _ hst fun s' hm => ?_)
    show wpAny _ A.in1 (ret Value.none) _ _ s'
    exact wpAny_pure (hR s' (hm.mono more) (stays hm hS))
  | succ k ih =>
    intro i s hk hi hst hS hR
    refine codeAny_builtin F.entry_set_update_loop ?_
    rw [Around.under_plainId F.plain_set_update_loop _]
    show wpAny _ A.in1 (pyNext (.ref I) >>= _) _ _ s
    refine wpAny_bind (W.item i s _ _ (by omega) hst fun v s' hP hst' hm => ?_)
    obtain ⟨key, ek, isK, hsc⟩ := hval i v hP
    show wpAny _ A.in1 (holding [v] (setAdd S v) >>= _) _ _ s'
    refine wpAny_bind (wpAny_holding ?_)
    unfold setAdd
    refine wpAny_holding ?_
    refine wpAny_bind ((mixKind prog w).pyHash (k := key) isK ?_)
    have room : (dd (ks.take i)).length + 1 < scanBound := by have := dd_take_le ks i; omega
    refine wpAny_setAddHashed_of (knd := mixKind prog w) (s := { s' with toks := s'.toks + 1 }) isK hsc (show s'.heap.SetOf _ _ _ _ from stays hm hS) room fun h' same hS2 => ?_
    have hSi : h'.SetOf (mixKind prog w) S (InDD ks (i + 1)) (dd (ks.take (i + 1))).length := by
      refine setOf_congr hS2 (fun j => ?_) ?_
      · show (hasK (dd (ks.take i)) j || decide (j = key)) = hasK (dd (ks.take (i + 1))) j
        rw [take_snoc ek, dd_snoc]
        refine Bool.eq_iff_iff.mpr ?_
        rw [Bool.or_eq_true, decide_eq_true_eq, hasK_iff, hasK_iff, mem_dstep]
      · rw [take_snoc ek, dd_snoc]
        unfold InDD dstep
        by_cases h : hasK (dd (ks.take i)) key = true
        · rw [if_pos h, if_pos h]
        · rw [if_neg h, if_neg h]; simp
    refine wpAny_pure ⟨plainId_quiet F.plain_set_update_loop _, ih (i + 1) _ (by omega) (by omega) (W.frame _ s' _ _ hst' (Nat.le_succ _) fun b hb o e => ?_) hSi fun s'' hm2 hS'' => ?_⟩
    · rw [same.2 b (fun q : b = S => hSf (q ▸ hb))]; exact e
    · refine hR s'' (Moved.trans W.gtrans ((hm.mono more).then_heap (Nat.le_succ _) fun b o hb e => ?_) hm2) hS''
      rw [same.2 b (fun q : b = S => hb (by rw [q]; exact List.mem_cons_self))]; exact e
end
section
variable {prog : Program} {w : World} {A : Around} {E : Value → Shared → Prop} {s : Shared}
theorem call_setK {l : Addr} {items : Array Value} {ks : List Key} {Q : Value → Shared → Prop} (hh : A.handled = none) (hl : s.heap.IsList l items) (hv : Vals (ks.map kV) items.toList) (hb : (dd ks).length + 1 < scanBound)
    (h : ∀ (h' : Heap) (tk : Nat), h'.SetOf (mixKind prog w) s.heap.objs.size (hasK (dd ks)) (dd ks).length →
      (∀ b o, b < s.heap.objs.size → s.heap.get? b = some o → h'.get? b = some o) → Q (.ref s.heap.objs.size) { s with heap := h', toks := tk }) :
    wpAny (model prog w) A (call (.type "set") [.ref l]) Q E s := by
  have hsz : ks.length = items.size := by have := hv.length; rw [List.length_map, Array.length_toList] at this; exact this
  have all : ks.take items.size = ks := by rw [← hsz, List.take_length]
  have hval : ∀ (i : Nat) (v : Value), items[i]? = some v → ∃ k, ks[i]? = some k ∧ (mixKind prog w).is k v = true ∧ v.scannable = true := fun i v e => by
    cases q : ks[i]? with
    | none =>
      have h1 := List.getElem?_eq_none_iff.mp q
      have h2 := (Array.getElem?_eq_some_iff.mp e).1
      omega
    | some k =>
      obtain ⟨u, e2, r⟩ := hv.get (i := i) (x := kV k) (by rw [List.getElem?_map, q]; rfl)
      rw [Array.getElem?_toList, e] at e2
      cases e2
      exact ⟨k, rfl, kV_is r, key_scan r⟩
  obtain ⟨c, tl, hmro⟩ := PySem.F.called_set.mro
  have hmade := PySem.F.called_set.made
  have hsub := PySem.F.called_set.sub
  refine wpAny_call (codeAny_of_tree ?_)
  show wpAny _ _ (callAny (.type "set") _) _ _ _
  refine wpAny_pure ⟨Code.quiet_builtin _ (by decide +kernel), codeAny_builtin PySem.F.entry_type_call ?_⟩
  rw [Around.under_plain (weight_type_call_type "set" [.ref l] []) rfl]
  have h1 := PySem.F.called_set.notType
  have h2 := PySem.F.called_set.canCreate
  have hct := PySem.F.typeCall_set_1 (.ref l)
  repeat (any_goals (first | assumption | wp_step))
  refine codeAny_mono (code_set_new_1 (.ref l) (E := E) (Q₁ := fun obj s₁ => ∃ led : Bool, obj = .ref s.heap.objs.size ∧ s₁ = { s with heap := s.heap.push { cls := .type "set", dict := none, data := .set #[] 0 (.fresh 0 0 led) } }) fun led => ⟨led, rfl, rfl⟩) fun r s₁ hr => ?_
  cases r with
  | error e => exact hr
  | ok fl =>
    cases fl with
    | ret obj =>
      obtain ⟨led, rfl, rfl⟩ := hr
      have hS : (s.heap.push { cls := .type "set", dict := none, data := .set #[] 0 (.fresh 0 0 led) }).get? s.heap.objs.size = some { cls := .type "set", dict := none, data := .set #[] 0 (.fresh 0 0 led) } := Heap.get?_push_size _ rfl
      have hT : Shared.TypeIs { s with heap := s.heap.push { cls := .type "set", dict := none, data := .set #[] 0 (.fresh 0 0 led) } } (.ref s.heap.objs.size) "set" := ⟨_, hS, rfl⟩
      have hli := PySem.F.called_set.init.lookup
      have hbi := PySem.F.called_set.init.bind (.ref s.heap.objs.size)
      repeat (any_goals (first | assumption | wp_step))
      refine codeAny_mono (codeAny_call_builtin (R := wants (fun r s₂ => r = .none ∧ ∃ h' tk, s₂ = { s with heap := h', toks := tk } ∧
          h'.SetOf (mixKind prog w) s.heap.objs.size (hasK (dd ks)) (dd ks).length ∧
          (∀ b o, b < s.heap.objs.size → s.heap.get? b = some o → h'.get? b = some o)) E) PySem.F.called_set.init.plain PySem.F.entry_set_init (check_set_init_1 hT ?_)) fun r₂ s₂ hr₂ => ?_
      · obtain ⟨⟨ocls, odict, odata, oslots⟩, hol, hcl, nl, hdl⟩ := hl
        simp only at hcl hdl
        subst hcl; subst hdl
        have hol' : (s.heap.push { cls := .type "set", dict := none, data := .set #[] 0 (.fresh 0 0 led) }).get? l = some { cls := .type "list", dict := odict, data := .seq items nl, slots := oslots } := Heap.get?_push_of_some _ hol
        have hsls := PySem.F.sub_list_set
        have hslf := PySem.F.sub_list_frozenset
        have hne : (Value.type "list" == Value.type "dict") = false := by decide
        have hl1 : (s.heap.push { cls := .type "set", dict := none, data := .set #[] 0 (.fresh 0 0 led) }).IsList l items := ⟨_, hol', rfl, nl, rfl⟩
        unfold Builtin.«set.__init__» noKeywords Builtin.Frozenset.updateFrom
        generalize hPI : pyIter = PI
        wp_walk
        subst hPI
        refine wpAny_pyIter_list hl1 ?_
        refine wpAny_bind (wpAny_runValue ?_)
        have hlS : l < s.heap.objs.size := Heap.lt_size hol
        have hh3 : A.in1.in1.in1.handled = none := by simp [hh]
        have hneI : l ≠ (s.heap.push { cls := .type "set", dict := none, data := .set #[] 0 (.fresh 0 0 led) }).objs.size := by
          rw [Heap.size_push]; exact Nat.ne_of_lt (Nat.lt_succ_of_lt hlS)
        have hSf : s.heap.objs.size ∉ [(s.heap.push { cls := .type "set", dict := none, data := .set #[] 0 (.fresh 0 0 led) }).objs.size, l] := by
          rw [Heap.size_push]; simp only [List.mem_cons, List.mem_singleton, List.not_mem_nil, or_false, not_or]
          exact ⟨Nat.ne_of_lt (Nat.lt_succ_self _), Nat.ne_of_gt hlS⟩
        refine set_loop ((Walks.list hh3 _ l hneI items).toS) s.heap.objs.size hSf ks hval hb hsz (items.size - 0) 0 _ (by omega) (Nat.zero_le _) ⟨⟨_, Heap.get?_push_size _ rfl, rfl, rfl⟩, (hl1.push _)⟩ ?hS0 ?hR
        case hS0 =>
          have hget : ((s.heap.push { cls := .type "set", dict := none, data := .set #[] 0 (.fresh 0 0 led) }).push { cls := .type "list_iterator", data := .fields #[.ref l, .int 0 0] }).get? s.heap.objs.size
              = some { cls := .type "set", dict := none, data := .set #[] 0 (.fresh 0 0 led) } := Heap.get?_push_of_some _ hS
          exact ⟨_, #[], 0, _, hget, ⟨rfl, rfl, rfl⟩, rfl, (fun e he => by simp at he), (fun k => by simp [InDD, dd, hasK]), (by decide), (by rfl), rfl⟩
        case hR =>
          intro s' hm hS'
          rw [all] at hS'
          have hS2 : s'.heap.SetOf (mixKind prog w) s.heap.objs.size (hasK (dd ks)) (dd ks).length := setOf_congr hS' (fun j => by unfold InDD; rw [all]) rfl
          obtain ⟨h', g', d', tk', os'⟩ := s'
          obtain rfl : g' = s.gens := hm.gens
          obtain rfl : d' = s.drawn := hm.drawn
          obtain rfl : os' = s.os := hm.os
          show wpAny _ _ _ _ _ _
          refine wpAny_pure ?_
          show wpAny _ _ (ret Value.none) _ _ _
          refine wpAny_pure ⟨rfl, h', tk', rfl, hS2, fun b o hb e => ?_⟩
          have hb1 : b ≠ s.heap.objs.size := Nat.ne_of_lt hb
          have hb2 : b ≠ (s.heap.push { cls := .type "set", dict := none, data := .set #[] 0 (.fresh 0 0 led) }).objs.size := by
            rw [Heap.size_push]; exact Nat.ne_of_lt (Nat.lt_succ_of_lt hb)
          exact hm.heap b o (by simp only [List.mem_cons, List.mem_singleton, List.not_mem_nil, or_false, not_or]; exact ⟨hb1, hb2⟩) (Heap.get?_push_of_some _ (Heap.get?_push_of_some _ e))
      · cases r₂ with
        | error e => exact hr₂
        | ok fl₂ =>
          cases fl₂ with
          | ret r =>
            obtain ⟨rfl, h', tk, rfl, hS', hk'⟩ := hr₂
            repeat (any_goals (first | assumption | wp_step))
            exact h _ _ hS' hk'
          | _ => exact hr₂.elim
    | _ => exact hr.elim
end
section
variable {X : Cx}
def rSetK (K : PySem.W.Frag) (P : Program) (w : World) : List V → Hp → VK → Prop := fun xs H Q => ∃ (a : Addr) (ks : List Key), xs = [.ref a] ∧ SqL K H a (ks.map kV) ∧ (dd ks).length + 1 < scanBound ∧
  ∀ p, H p = none → Q (.ref p) (upd H p (SetK P w p (hasK (dd ks)) (dd ks).length))
/-- set(xs) -/
theorem cr_setK (calm : X.calm = true) : CallR X (.type "set") (rSetK X.K X.prog X.w) := by
  intro pins s σ H xs us Q I r h
  obtain ⟨a, ks, rfl, hl, hb, q⟩ := h
  obtain ⟨u, rfl, ru⟩ := vals1 r
  cases ru
  obtain ⟨its, rv, pl, hz⟩ := I.list hl
  refine call_setK (I.ok.hd calm) pl.isList (by simpa using rv) hb fun h' tk new keep => ?_
  exact ⟨.ref _, _, I.laid (t' := tk) (fun b o e => keep b o (Heap.lt_size e) e) (Nat.le_refl _) (setK_new new), rfl, q _ I.fresh⟩
def rLenK (P : Program) (w : World) : List V → Hp → VK → Prop := fun xs H Q => ∃ (a : Addr) (S : Key → Bool) (n : Nat), xs = [.ref a] ∧ H a = some (SetK P w a S n) ∧ Q (.int n) H
/-- len(s), s a set -/
theorem cr_lenK : CallR X (.builtin "len") (rLenK X.prog X.w) := by
  intro pins s σ H xs us Q I r h
  obtain ⟨a, S, n, rfl, ha, q⟩ := h
  obtain ⟨u, rfl, ru⟩ := vals1 r
  cases ru
  obtain ⟨o, es, ep, t, ho, hex, hd, _, _, hsb, hf, hn⟩ := setK_get I ha
  exact call_len_set ho hex hd hf (by have : scanBound = 4096 := rfl; omega) ⟨.int n, H, I.tok _, ⟨_, by rw [hn]⟩, q⟩
end
theorem dd_len_iff (ks : List Key) : (dd ks).length = ks.length ↔ ks.Nodup := by
  have gen : ∀ (ks : List Key) (l : List Key), (ks.foldl dstep l).length ≤ l.length + ks.length ∧ ((ks.foldl dstep l).length = l.length + ks.length ↔ ks.Nodup ∧ ∀ k ∈ ks, k ∉ l) := by
    intro ks
    induction ks with
    | nil => intro l; simp
    | cons k r ih =>
      intro l
      obtain ⟨h1, h2⟩ := ih (dstep l k)
      have hl : (dstep l k).length ≤ l.length + 1 := by unfold dstep; split <;> simp
      refine ⟨by simp only [List.foldl_cons, List.length_cons]; omega, ?_⟩
      simp only [List.foldl_cons, List.length_cons, List.nodup_cons, List.mem_cons, forall_eq_or_imp]
      constructor
      · intro e
        have hk : (dstep l k).length = l.length + 1 := by omega
        have kl : k ∉ l := by
          intro q
          unfold dstep at hk
          rw [if_pos (hasK_iff.mpr q)] at hk
          omega
        obtain ⟨nd, away⟩ := h2.mp (by omega)
        exact ⟨⟨fun q => away k q (mem_dstep.mpr (.inr rfl)), nd⟩, kl, fun j hj q => away j hj (mem_dstep.mpr (.inl q))⟩
      · rintro ⟨⟨kr, nd⟩, kl, away⟩
        have hk : (dstep l k).length = l.length + 1 := by unfold dstep; rw [if_neg (fun q => kl (hasK_iff.mp q))]; simp
        have := h2.mpr ⟨nd, fun j hj q => (mem_dstep.mp q).elim (away j hj) fun e => kr (e ▸ hj)⟩
        omega
  have := (gen ks []).2
  simp only [List.length_nil, Nat.zero_add, List.not_mem_nil, not_false_eq_true, implies_true, and_true] at this
  exact this
end Dk

set_option Elab.async false
set_option linter.all false
set_option maxRecDepth 100000
set_option maxHeartbeats 1000000
namespace Dk
open PySem PySem.Spec PyProof.Rows L2
open Evl (Ex)

/-! ### what a value is, by data -/
class Py (α : Type) where
  rp : Hp → V → α → Prop
  up : ∀ {G G' : Hp} {v : V} {a : α}, Ex G G' → rp G v a → rp G' v a
open Py (rp)
abbrev All2 [Py α] (G : Hp) : List V → List α → Prop := Paired (rp G)
theorem all2_up [Py α] {G G' : Hp} (e : Ex G G') {vs : List V} {xs : List α} (h : All2 G vs xs) : All2 G' vs xs := Paired.mapP h fun _ _ q => Py.up e q
instance : Py Int := ⟨fun _ v i => v = .int i, fun _ h => h⟩
instance : Py Bool := ⟨fun _ v b => v = .bl b, fun _ h => h⟩
instance : Py Str := ⟨fun _ v x => v = .str x, fun _ h => h⟩
instance : Py Unit := ⟨fun _ v _ => v = .non, fun _ h => h⟩
instance [Py α] : Py (List α) := ⟨fun G v xs => ∃ a vs, v = .ref a ∧ G a = some (.lst vs) ∧ All2 G vs xs, fun e ⟨a, vs, h1, h2, h3⟩ => ⟨a, vs, h1, e a _ h2, all2_up e h3⟩⟩
instance [Py α] [Py β] : Py (α × β) := ⟨fun G v p => ∃ a x y, v = .ref a ∧ G a = some (.tup [x, y]) ∧ rp G x p.1 ∧ rp G y p.2, fun e ⟨a, x, y, h1, h2, h3, h4⟩ => ⟨a, x, y, h1, e a _ h2, Py.up e h3, Py.up e h4⟩⟩
/-- a tuple of any length of things of one kind -/
structure Tu (α : Type) where
  items : List α
instance [Py α] : Py (Tu α) := ⟨fun G v t => ∃ a vs, v = .ref a ∧ G a = some (.tup vs) ∧ All2 G vs t.items, fun e ⟨a, vs, h1, h2, h3⟩ => ⟨a, vs, h1, e a _ h2, all2_up e h3⟩⟩
instance [Py α] : Py (Option α) := ⟨fun G v o => match o with | none => v = .non | some a => rp G v a, fun {G G' v o} e h => match o, h with | none, h => h | some _, h => Py.up e h⟩
@[simp] theorem rp_int {G : Hp} {v : V} {i : Int} : rp G v i ↔ v = .int i := Iff.rfl
@[simp] theorem rp_bool {G : Hp} {v : V} {i : Bool} : rp G v i ↔ v = .bl i := Iff.rfl
@[simp] theorem rp_str {G : Hp} {v : V} {i : Str} : rp G v i ↔ v = .str i := Iff.rfl
theorem all2_len [Py α] {G : Hp} {vs : List V} {xs : List α} (h : All2 G vs xs) : vs.length = xs.length := Paired.length h
theorem all2_get [Py α] {G : Hp} : ∀ {vs : List V} {xs : List α} {i : Nat} {x : α}, All2 G vs xs → xs[i]? = some x → ∃ v, vs[i]? = some v ∧ rp G v x
  | _, _, _, _, .nil, e => by simp at e
  | _, _, 0, _, .cons r _, e => by simp at e; subst e; exact ⟨_, rfl, r⟩
  | _, _, i + 1, x, .cons _ t, e => by
    obtain ⟨u, h1, h2⟩ := all2_get (i := i) (x := x) t (by simpa using e)
    exact ⟨u, by simpa using h1, h2⟩
theorem all2_getV [Py α] {G : Hp} : ∀ {vs : List V} {xs : List α} {i : Nat} {v : V}, All2 G vs xs → vs[i]? = some v → ∃ x, xs[i]? = some x ∧ rp G v x
  | _, _, _, _, .nil, e => by simp at e
  | _, _, 0, _, .cons r _, e => by simp at e; subst e; exact ⟨_, rfl, r⟩
  | _, _, i + 1, x, .cons _ t, e => by
    obtain ⟨u, h1, h2⟩ := all2_getV (i := i) (v := x) t (by simpa using e)
    exact ⟨u, by simpa using h1, h2⟩
theorem all2_app [Py α] {G : Hp} : ∀ {vs ws : List V} {xs ys : List α}, All2 G vs xs → All2 G ws ys → All2 G (vs ++ ws) (xs ++ ys)
  | _, _, _, _, .nil, s => s
  | _, _, _, _, .cons r t, s => .cons r (all2_app t s)
theorem all2_one [Py α] {G : Hp} {v : V} {x : α} (h : rp G v x) : All2 G [v] [x] := .cons h .nil
theorem all2_take [Py α] {G : Hp} : ∀ {vs : List V} {xs : List α} (n : Nat), All2 G vs xs → All2 G (vs.take n) (xs.take n)
  | _, _, 0, _ => .nil
  | _, _, _ + 1, .nil => .nil
  | _, _, n + 1, .cons r t => .cons r (all2_take n t)
theorem all2_drop [Py α] {G : Hp} : ∀ {vs : List V} {xs : List α} (n : Nat), All2 G vs xs → All2 G (vs.drop n) (xs.drop n)
  | _, _, 0, r => r
  | _, _, _ + 1, .nil => .nil
  | _, _, n + 1, .cons _ t => all2_drop n t
theorem all2_rev [Py α] {G : Hp} : ∀ {vs : List V} {xs : List α}, All2 G vs xs → All2 G vs.reverse xs.reverse
  | _, _, .nil => .nil
  | _, _, .cons r t => by simp only [List.reverse_cons]; exact all2_app (all2_rev t) (all2_one r)
theorem all2_ints {G : Hp} : ∀ {vs : List V} {xs : List Int}, All2 G vs xs → vs = xs.map V.int
  | _, _, .nil => rfl
  | _, _, .cons r t => by rw [List.map_cons, ← all2_ints t]; congr
theorem all2_strs {G : Hp} : ∀ {vs : List V} {xs : List Str}, All2 G vs xs → vs = xs.map V.str
  | _, _, .nil => rfl
  | _, _, .cons r t => by rw [List.map_cons, ← all2_strs t]; congr
theorem all2_bls {G : Hp} : ∀ {vs : List V} {xs : List Bool}, All2 G vs xs → vs = xs.map V.bl
  | _, _, .nil => rfl
  | _, _, .cons r t => by rw [List.map_cons, ← all2_bls t]; congr
theorem all2_of_ints {G : Hp} : ∀ (xs : List Int), All2 G (xs.map V.int) xs
  | [] => .nil
  | _ :: r => .cons rfl (all2_of_ints r)
theorem all2_of_strs {G : Hp} : ∀ (xs : List Str), All2 G (xs.map V.str) xs
  | [] => .nil
  | _ :: r => .cons rfl (all2_of_strs r)

/-! ### the state: what stands still, what is owned, the bag -/
def Bag (G H : Hp) (b : Addr) : Prop := G b = none ∧ ∃ (z0 z1 z2 : Int) (c : Addr) (cells : List Int), H b = some (.lst [.int z0, .int z1, .int z2, .ref c]) ∧ 0 ≤ z2 ∧ G c = some (.lst (cells.map V.int))
structure Sx (B : Option Addr) (O : List (Addr × HO)) (G H : Hp) : Prop where
  ex : Ex G H
  own : ∀ p ∈ O, H p.1 = some p.2 ∧ G p.1 = none
  nd : (O.map (·.1)).Nodup
  bag : ∀ b, B = some b → Bag G H b ∧ b ∉ O.map (·.1)
section
variable {B : Option Addr} {O O' : List (Addr × HO)} {G H : Hp} {p : Addr} {o o' : HO}
theorem ex_none {G H : Hp} (e : Ex G H) (h : H p = none) : G p = none := by
  cases q : G p with
  | none => rfl
  | some u => rw [e p u q] at h; cases h
theorem ex_upd {G : Hp} (h : G p = none) : Ex G (upd G p o) := fun a u e => by rw [upd_ne (ne_of_none e h)]; exact e
theorem ex_upd2 {G H : Hp} (e : Ex G H) : Ex (upd G p o) (upd H p o) := fun a u q => by
  by_cases ha : a = p
  · subst ha; rw [upd_same] at q ⊢; exact q
  · rw [upd_ne ha] at q ⊢; exact e a u q
theorem Sx.gnone (s : Sx B O G H) (h : H p = none) : G p = none := ex_none s.ex h
theorem Sx.grow (s : Sx B O G H) (h : H p = none) : Ex G (upd G p o) := ex_upd (s.gnone h)
theorem Sx.ne (s : Sx B O G H) (h : H p = none) {q : Addr × HO} (hq : q ∈ O) : q.1 ≠ p := ne_of_none (s.own q hq).1 h
theorem Sx.notIn (s : Sx B O G H) (h : H p = none) : p ∉ O.map (·.1) := fun q => by
  obtain ⟨x, hx, e⟩ := List.mem_map.mp q
  exact s.ne h hx e
theorem Bag.at (b : Bag G H p) : ∃ u, H p = some u := let ⟨_, _, _, _, _, _, h, _⟩ := b; ⟨_, h⟩
theorem Bag.up {G' H' : Hp} {b : Addr} (x : Bag G H b) (e : Ex G G') (h1 : G' b = none) (h2 : H' b = H b) : Bag G' H' b :=
  let ⟨_, z0, z1, z2, c, cells, h, hz, hc⟩ := x
  ⟨h1, z0, z1, z2, c, cells, h2.trans h, hz, e c _ hc⟩
/-- a new object that stands still from now on -/
theorem Sx.still (s : Sx B O G H) (h : H p = none) : Sx B O (upd G p o) (upd H p o) :=
  ⟨ex_upd2 s.ex, fun q hq => by rw [upd_ne (s.ne h hq), upd_ne (s.ne h hq)]; exact s.own q hq, s.nd, fun b hb => by
    obtain ⟨x, y⟩ := s.bag b hb
    obtain ⟨u, hu⟩ := x.at
    have ne := ne_of_none hu h
    exact ⟨x.up (s.grow h) (by rw [upd_ne ne]; exact x.1) (upd_ne ne), y⟩⟩
/-- a new object of one's own -/
theorem Sx.mine (s : Sx B O G H) (h : H p = none) : Sx B ((p, o) :: O) G (upd H p o) :=
  ⟨fun a u e => by rw [upd_ne (ne_of_none (s.ex a u e) h)]; exact s.ex a u e, fun q hq => by
    rcases List.mem_cons.mp hq with rfl | hq
    · exact ⟨upd_same, s.gnone h⟩
    · rw [upd_ne (s.ne h hq)]; exact s.own q hq, by simpa using ⟨fun x hx => s.notIn h (List.mem_map.mpr ⟨_, hx, rfl⟩), s.nd⟩, fun b hb => by
    obtain ⟨x, y⟩ := s.bag b hb
    obtain ⟨u, hu⟩ := x.at
    have ne := ne_of_none hu h
    exact ⟨x.up (fun _ _ q => q) x.1 (upd_ne ne), by simpa using ⟨ne, by simpa using y⟩⟩⟩
theorem Sx.head (s : Sx B ((p, o) :: O) G H) : H p = some o ∧ G p = none := s.own _ List.mem_cons_self
theorem Sx.tailNe (s : Sx B ((p, o) :: O) G H) {q : Addr × HO} (hq : q ∈ O) : q.1 ≠ p := by
  have := s.nd
  simp only [List.map_cons, List.nodup_cons] at this
  intro e
  exact this.1 (List.mem_map.mpr ⟨q, hq, e⟩)
theorem Sx.bagNe (s : Sx B ((p, o) :: O) G H) {b : Addr} (hb : B = some b) : b ≠ p := by
  have := (s.bag b hb).2
  simp only [List.map_cons, List.mem_cons, not_or] at this
  exact this.1
/-- one's own object changed -/
theorem Sx.put (s : Sx B ((p, o) :: O) G H) : Sx B ((p, o') :: O) G (upd H p o') :=
  ⟨fun a u e => by rw [upd_ne (ne_of_none e s.head.2)]; exact s.ex a u e, fun q hq => by
    rcases List.mem_cons.mp hq with rfl | hq
    · exact ⟨upd_same, s.head.2⟩
    · rw [upd_ne (s.tailNe hq)]; exact s.own q (List.mem_cons_of_mem _ hq), s.nd, fun b hb => by
    obtain ⟨x, y⟩ := s.bag b hb
    exact ⟨x.up (fun _ _ q => q) x.1 (upd_ne (s.bagNe hb)), y⟩⟩
/-- one's own object, that stands still from now on -/
theorem Sx.freeze (s : Sx B ((p, o) :: O) G H) : Sx B O (upd G p o) H ∧ Ex G (upd G p o) :=
  ⟨⟨fun a u e => by
      by_cases ha : a = p
      · subst ha; rw [upd_same] at e; cases e; exact s.head.1
      · rw [upd_ne ha] at e; exact s.ex a u e, fun q hq => by rw [upd_ne (s.tailNe hq)]; exact s.own q (List.mem_cons_of_mem _ hq), (List.nodup_cons.mp s.nd).2, fun b hb => by
      obtain ⟨x, y⟩ := s.bag b hb
      exact ⟨x.up (ex_upd s.head.2) (by rw [upd_ne (s.bagNe hb)]; exact x.1) rfl, fun q => y (by simpa using Or.inr (by simpa using q))⟩⟩, ex_upd s.head.2⟩
theorem Sx.drop (s : Sx B ((p, o) :: O) G H) : Sx B O G H :=
  ⟨s.ex, fun q hq => s.own q (List.mem_cons_of_mem _ hq), (List.nodup_cons.mp s.nd).2, fun b hb => ⟨(s.bag b hb).1, fun q => (s.bag b hb).2 (by simpa using Or.inr (by simpa using q))⟩⟩
theorem Sx.perm (s : Sx B O G H) (e : O.Perm O') : Sx B O' G H :=
  ⟨s.ex, fun q hq => s.own q (e.mem_iff.mpr hq), (e.map _).nodup_iff.mp s.nd, fun b hb => ⟨(s.bag b hb).1, fun q => (s.bag b hb).2 ((e.map _).mem_iff.mpr q)⟩⟩
theorem Sx.swap {x y : Addr × HO} (s : Sx B (x :: y :: O) G H) : Sx B (y :: x :: O) G H := s.perm (.swap _ _ _)
theorem Sx.rot {x y z : Addr × HO} (s : Sx B (x :: y :: z :: O) G H) : Sx B (z :: x :: y :: O) G H := s.perm ((List.Perm.cons _ (.swap _ _ _)).trans (.swap _ _ _))
theorem Sx.noBag (s : Sx B O G H) : Sx none O G H := ⟨s.ex, s.own, s.nd, fun _ h => nomatch h⟩
end

/-! ### what an expression gives -/
section
variable {α β γ : Type} [Py α] [Py β] [Py γ]
def EvP (B : Option Addr) (O : List (Addr × HO)) (te : TE) (σ : L2.St) (G : Hp) (P : α → Prop) : Prop :=
  ∀ G1 H1, Ex G G1 → Sx B O G1 H1 → ∀ Q : VK, (∀ v a G2 H2, P a → Ex G1 G2 → Sx B O G2 H2 → rp G2 v a → Q v H2) → te σ H1 Q
abbrev EvD (B : Option Addr) (O : List (Addr × HO)) (te : TE) (σ : L2.St) (G : Hp) (a : α) : Prop := EvP B O te σ G fun r => r = a
/-- a new list of one's own -/
def EvN (B : Option Addr) (O : List (Addr × HO)) (te : TE) (σ : L2.St) (G : Hp) (P : List α → Prop) : Prop :=
  ∀ G1 H1, Ex G G1 → Sx B O G1 H1 → ∀ Q : VK, (∀ p vs xs G2 H2, P xs → Ex G1 G2 → Sx B ((p, .lst vs) :: O) G2 H2 → All2 G2 vs xs → Q (.ref p) H2) → te σ H1 Q
abbrev EvM (B : Option Addr) (O : List (Addr × HO)) (te : TE) (σ : L2.St) (G : Hp) (xs : List α) : Prop := EvN B O te σ G fun r => r = xs
def EvT (B : Option Addr) (O : List (Addr × HO)) (tt : TT) (σ : L2.St) (G : Hp) (P : Bool → Prop) : Prop :=
  ∀ G1 H1, Ex G G1 → Sx B O G1 H1 → ∀ Q : Bool → Hp → Prop, (∀ b G2 H2, P b → Ex G1 G2 → Sx B O G2 H2 → Q b H2) → tt σ H1 Q
abbrev EtD (B : Option Addr) (O : List (Addr × HO)) (tt : TT) (σ : L2.St) (G : Hp) (b : Bool) : Prop := EvT B O tt σ G fun r => r = b
variable {B : Option Addr} {O : List (Addr × HO)} {te ta tb : TE} {σ : L2.St} {G G' : Hp} {P R : α → Prop}
theorem Ex.t {G G1 G2 : Hp} (a : Ex G G1) (b : Ex G1 G2) : Ex G G2 := Evl.Ex.trans a b
theorem Ex.r {G : Hp} : Ex G G := Evl.Ex.refl G
theorem EvP.later (h : EvP B O te σ G P) (e : Ex G G') : EvP B O te σ G' P := fun G1 H1 e1 s Q q => h G1 H1 (Ex.t e e1) s Q q
theorem EvP.imp (h : EvP B O te σ G P) (i : ∀ a, P a → R a) : EvP B O te σ G R := fun G1 H1 e1 s Q q => h G1 H1 e1 s Q fun v a G2 H2 p => q v a G2 H2 (i a p)
theorem EvP.is {a b : α} (h : EvD B O te σ G a) (e : a = b) : EvD B O te σ G b := e ▸ h
theorem EvN.imp {P R : List α → Prop} (h : EvN B O te σ G P) (i : ∀ a, P a → R a) : EvN B O te σ G R := fun G1 H1 e1 s Q q => h G1 H1 e1 s Q fun p vs a G2 H2 pa => q p vs a G2 H2 (i a pa)
theorem EvN.is {a b : List α} (h : EvM B O te σ G a) (e : a = b) : EvM B O te σ G b := e ▸ h
theorem EvT.imp {tt : TT} {P R : Bool → Prop} (h : EvT B O tt σ G P) (i : ∀ a, P a → R a) : EvT B O tt σ G R := fun G1 H1 e1 s Q q => h G1 H1 e1 s Q fun a G2 H2 pa => q a G2 H2 (i a pa)
theorem EvT.is {tt : TT} {a b : Bool} (h : EtD B O tt σ G a) (e : a = b) : EtD B O tt σ G b := e ▸ h
theorem EvN.still {P : List α → Prop} (h : EvN B O te σ G P) : EvP B O te σ G P := fun G1 H1 e1 s Q q => h G1 H1 e1 s Q fun p vs xs G2 H2 hP e2 s2 r =>
  q (.ref p) xs _ H2 hP (Ex.t e2 s2.freeze.2) s2.freeze.1 ⟨p, vs, rfl, upd_same, all2_up s2.freeze.2 r⟩
theorem ev_var {i : Nat} {v : V} {a : α} (h : σ[i]? = some (some v)) (r : rp G v a) : EvD B O (tVar i) σ G a := fun G1 H1 e s Q q => ⟨v, h, q v a G1 H1 rfl Ex.r s (Py.up e r)⟩
theorem ev_int {i : Int} : EvD B O (tC (.int i)) σ G i := fun G1 H1 _ s Q q => q _ _ G1 H1 rfl Ex.r s rfl
theorem ev_bl {i : Bool} : EvD B O (tC (.bl i)) σ G i := fun G1 H1 _ s Q q => q _ _ G1 H1 rfl Ex.r s rfl
theorem ev_str {i : Str} : EvD B O (tC (.str i)) σ G i := fun G1 H1 _ s Q q => q _ _ G1 H1 rfl Ex.r s rfl
theorem ev_non : EvD (α := Option α) B O (tC .non) σ G none := fun G1 H1 _ s Q q => q _ _ G1 H1 rfl Ex.r s rfl
/-- an operation on two values -/
def Op2 (r : R2) (x : α) (y : β) (P : γ → Prop) : Prop :=
  ∀ B O G H v w, Sx B O G H → rp G v x → rp G w y → ∀ Q : VK, (∀ u z G2 H2, P z → Ex G G2 → Sx B O G2 H2 → rp G2 u z → Q u H2) → r v w H Q
/-- .. that gives a new list -/
def Op2N (r : R2) (x : α) (y : β) (P : List γ → Prop) : Prop :=
  ∀ B O G H v w, Sx B O G H → rp G v x → rp G w y → ∀ Q : VK, (∀ p vs z G2 H2, P z → Ex G G2 → Sx B ((p, .lst vs) :: O) G2 H2 → All2 G2 vs z → Q (.ref p) H2) → r v w H Q
theorem ev_opP {r : R2} {P : α → Prop} {R : β → Prop} {S : γ → Prop} (ha : EvP B O ta σ G P) (hb : EvP B O tb σ G R) (h : ∀ x y, P x → R y → Op2 r x y S) : EvP B O (tOp r ta tb) σ G S := fun G1 H1 e1 s Q q =>
  ha G1 H1 e1 s _ fun v x G2 H2 px e2 s2 rv => hb G2 H2 (Ex.t e1 e2) s2 _ fun w y G3 H3 py e3 s3 rw =>
    h x y px py B O G3 H3 v w s3 (Py.up e3 rv) rw Q fun u z G4 H4 pz e4 s4 ru => q u z G4 H4 pz (Ex.t (Ex.t e2 e3) e4) s4 ru
theorem ev_op {r : R2} {x : α} {y : β} {S : γ → Prop} (ha : EvD B O ta σ G x) (hb : EvD B O tb σ G y) (h : Op2 r x y S) : EvP B O (tOp r ta tb) σ G S := ev_opP ha hb fun _ _ e1 e2 => e1 ▸ e2 ▸ h
theorem en_opP {r : R2} {P : α → Prop} {R : β → Prop} {S : List γ → Prop} (ha : EvP B O ta σ G P) (hb : EvP B O tb σ G R) (h : ∀ x y, P x → R y → Op2N r x y S) : EvN B O (tOp r ta tb) σ G S := fun G1 H1 e1 s Q q =>
  ha G1 H1 e1 s _ fun v x G2 H2 px e2 s2 rv => hb G2 H2 (Ex.t e1 e2) s2 _ fun w y G3 H3 py e3 s3 rw =>
    h x y px py B O G3 H3 v w s3 (Py.up e3 rv) rw Q fun p vs z G4 H4 pz e4 s4 ru => q p vs z G4 H4 pz (Ex.t (Ex.t e2 e3) e4) s4 ru
theorem en_op {r : R2} {x : α} {y : β} {S : List γ → Prop} (ha : EvD B O ta σ G x) (hb : EvD B O tb σ G y) (h : Op2N r x y S) : EvN B O (tOp r ta tb) σ G S := en_opP ha hb fun _ _ e1 e2 => e1 ▸ e2 ▸ h
end
end Dk

set_option Elab.async false
set_option linter.all false
set_option maxRecDepth 100000
set_option maxHeartbeats 1000000
namespace Dk
open PySem PySem.Spec PyProof.Rows L2
open Evl (Ex)
open Py (rp)

/-! ### operators -/
def rSA : R2 := fun x y H Q => ∃ i j, x = .str i ∧ y = .str j ∧ i.length + j.length ≤ sizeLine ∧ Q (.str (i ++ j)) H
def rPlus : R2 := fun x y H Q => rI0 (fun i j => .int (i + j)) x y H Q ∨ (rSA x y H Q ∨ rCat x y H Q)
def rSM : R2 := fun x y H Q => ∃ (z : Str) (k : Int), x = .str z ∧ y = .int k ∧ 0 ≤ k ∧ k ≤ 1000000 ∧ z.length ≤ 10 ∧ Q (.str (PySem.Txt.mul z k)) H
def rTimes : R2 := fun x y H Q => rI CMul (fun i j => .int (i * j)) x y H Q ∨ (rSM x y H Q ∨ rRep x y H Q)
def rEqU (K : PySem.W.Frag) : R2 := fun x y H Q => rEqD K x y H Q ∨ rEq x y H Q
def rNeU (K : PySem.W.Frag) : R2 := fun x y H Q => rNeD K x y H Q ∨ rNe x y H Q
section
variable {X : Cx}
theorem op_eqU (hu : X.A.units + 64 < cLine) : OpR X (compareOp .Eq) (rEqU X.K) := OpR.or (op_eqD hu) op_eq
theorem op_neU (hu : X.A.units + 64 < cLine) : OpR X (compareOp .NotEq) (rNeU X.K) := OpR.or (op_neD hu) op_ne
theorem op_str_mul : OpR X (binaryOp .Mult) rSM := by
  intro pins s σ H x y v u Q I rx ry h
  obtain ⟨z, k, rfl, rfl, h0, h1, hz, q⟩ := h
  obtain ⟨t, rfl⟩ := rx
  obtain ⟨t', rfl⟩ := ry
  refine PySem.SB.mul ?_ fun t2 k2 => ⟨.str _, H, I.tok _, ⟨_, rfl⟩, q⟩
  refine ⟨by simp; omega, fun h2 _ h3 => ?_, fun h2 _ => ?_⟩
  · have h4 : (z.length : Int) ≤ (2 ^ 63 - 1) / k := by
      rw [Int.le_ediv_iff_mul_le (by omega)]
      have : (z.length : Int) * k ≤ 10 * 1000000 := Int.mul_le_mul (by omega) h1 h0 (by omega)
      omega
    omega
  · have h4 : z.length * k.toNat ≤ 10 * 1000000 := Nat.mul_le_mul hz (by omega)
    unfold Builtin.Str.tooLong
    have h5 : sizeLine = 16777216 := sizeLine_eq
    simp
    omega
theorem op_plus : OpR X (binaryOp .Add) rPlus := OpR.or op_add (OpR.or op_add_str op_cat)
theorem op_times : OpR X (binaryOp .Mult) rTimes := OpR.or op_mul (OpR.or op_str_mul op_rep)
end

section
variable {α β γ : Type} [Py α] [Py β] [Py γ]
theorem line_le {n : Nat} (h : n ≤ 1000000) : n ≤ sizeLine := Nat.le_trans h (by decide)
theorem line_lt {n : Nat} (h : n ≤ 1000000) : n < sizeLine := Nat.lt_of_le_of_lt h (by decide)
/-- an operation on scalars that gives a scalar -/
theorem o2_val {r : R2} {x : α} {y : β} {P : γ → Prop} (h : ∀ G H v w, rp G v x → rp G w y → ∀ Q : VK, (∀ u z, P z → rp G u z → Q u H) → r v w H Q) : Op2 r x y P :=
  fun B O G H v w s hv hw Q q => h G H v w hv hw Q fun u z pz ru => q u z G H pz Ex.r s ru
theorem o2_I0 {f : Int → Int → Int} {x y : Int} : Op2 (rI0 fun i j => .int (f i j)) x y (· = f x y) := o2_val fun G H v w hv hw Q q => ⟨x, y, hv, hw, q _ _ rfl rfl⟩
theorem o2_B0 {f : Int → Int → Bool} {x y : Int} : Op2 (rI0 fun i j => .bl (f i j)) x y (· = f x y) := o2_val fun G H v w hv hw Q q => ⟨x, y, hv, hw, q _ _ rfl rfl⟩
theorem o2_I {C : Int → Int → Prop} {f : Int → Int → Int} {x y : Int} (c : C x y) : Op2 (rI C fun i j => .int (f i j)) x y (· = f x y) := o2_val fun G H v w hv hw Q q => ⟨x, y, hv, hw, c, q _ _ rfl rfl⟩
theorem o2_addI {x y : Int} : Op2 rPlus x y (· = x + y) := o2_val fun G H v w hv hw Q q => .inl ⟨x, y, hv, hw, q _ _ rfl rfl⟩
theorem o2_addS {x y : Str} (h : x.length + y.length ≤ 1000000) : Op2 rPlus x y (· = x ++ y) := o2_val fun G H v w hv hw Q q => .inr (.inl ⟨x, y, hv, hw, line_le h, q _ _ rfl rfl⟩)
theorem o2_addL {xs ys : List α} (h : xs.length + ys.length ≤ 1000000) : Op2N rPlus xs ys (· = xs ++ ys) := fun B O G H v w s hv hw Q q => by
  obtain ⟨a, vs, rfl, ha, ra⟩ := hv
  obtain ⟨b, ws, rfl, hb, rb⟩ := hw
  exact .inr (.inr ⟨a, b, vs, ws, rfl, rfl, s.ex a _ ha, s.ex b _ hb, line_le (by rw [all2_len ra, all2_len rb]; exact h), fun p hp => q p _ _ G _ rfl Ex.r (s.mine hp) (all2_app ra rb)⟩)
theorem o2_subI {x y : Int} : Op2 (rI0 fun i j => .int (i - j)) x y (· = x - y) := o2_I0 (f := fun i j => i - j)
theorem o2_mulI {x y : Int} (c : CMul x y) : Op2 rTimes x y (· = x * y) := o2_val fun G H v w hv hw Q q => .inl ⟨x, y, hv, hw, c, q _ _ rfl rfl⟩
theorem o2_mulS {x : Str} {y : Int} (h0 : 0 ≤ y) (h1 : y ≤ 1000000) (hz : x.length ≤ 10) : Op2 rTimes x y (· = PySem.Txt.mul x y) := o2_val fun G H v w hv hw Q q => .inr (.inl ⟨x, y, hv, hw, h0, h1, hz, q _ _ rfl rfl⟩)
theorem all2_rep {G : Hp} {vs : List V} {xs : List α} (h : All2 G vs xs) : ∀ n, All2 G (List.replicate n vs).flatten (List.replicate n xs).flatten
  | 0 => .nil
  | n + 1 => by rw [List.replicate_succ, List.replicate_succ, List.flatten_cons, List.flatten_cons]; exact all2_app h (all2_rep h n)
theorem o2_mulL {xs : List α} {y : Int} (h0 : 0 ≤ y) (h : xs.length * y.toNat ≤ 1000000) (h1 : y ≤ 1000000) : Op2N rTimes xs y (· = (List.replicate y.toNat xs).flatten) := fun B O G H v w s hv hw Q q => by
  obtain ⟨a, vs, rfl, ha, ra⟩ := hv
  exact .inr (.inr ⟨a, y, vs, rfl, hw, s.ex a _ ha, by omega, by omega, line_le (by rw [all2_len ra]; exact h), fun p hp => q p _ _ G _ rfl Ex.r (s.mine hp) (all2_rep ra _)⟩)
theorem o2_mod {x y : Int} (h : 0 < y) : Op2 (rI (fun _ j => 0 < j) fun i j => .int (i % j)) x y (· = x % y) := o2_I (f := fun i j => i % j) h
theorem o2_fdiv {x y : Int} (h : CDivW x y) : Op2 (rI CDivW fun i j => .int (i / j)) x y (· = x / y) := o2_I (f := fun i j => i / j) h
theorem o2_pow {x y : Int} (h : CPow x y) : Op2 (rI CPow fun i j => .int (i ^ j.toNat)) x y (· = x ^ y.toNat) := o2_I (f := fun i j => i ^ j.toNat) h
theorem o2_lt {x y : Int} : Op2 (rI0 fun i j => .bl (decide (i < j))) x y (· = decide (x < y)) := o2_B0 (f := fun i j => decide (i < j))
theorem o2_le {x y : Int} : Op2 (rI0 fun i j => .bl (decide (i ≤ j))) x y (· = decide (x ≤ y)) := o2_B0 (f := fun i j => decide (i ≤ j))
theorem o2_gt {x y : Int} : Op2 (rI0 fun i j => .bl (decide (j < i))) x y (· = decide (y < x)) := o2_B0 (f := fun i j => decide (j < i))
theorem o2_ge {x y : Int} : Op2 (rI0 fun i j => .bl (decide (j ≤ i))) x y (· = decide (y ≤ x)) := o2_B0 (f := fun i j => decide (j ≤ i))
end

/-! ### data whose == is plain: its picture, its texts -/
def okS (x : Str) : Prop := ∀ c ∈ x.cps.toList, c < 1114112
class PyD (α : Type) [DecidableEq α] extends Py α where
  pic : α → PyData
  ok : α → Prop
  okr : α → Prop
  size : α → Nat
  deep : Nat
  dp : ∀ {K : PySem.W.Frag} {G H : Hp} {v : V} {a : α}, Ex G H → rp G v a → Dp K H v (pic a)
  lay : ∀ {a}, ok a → (pic a).canLay0 = true
  dep : ∀ a, (pic a).depth ≤ deep
  eqd : ∀ a b, PyData.eqv (pic a) (pic b) = decide (a = b)
  sh : ∀ {a}, okr a → (pic a).leavesShort 13 = true ∧ (pic a).showable = true ∧ (pic a).hasDict = false
  bk : ∀ a, (pic a).bulk ≤ size a
open PyD (pic)
theorem int_short {i : Int} (h : i.natAbs < 10 ^ 12) : (PyData.shown (.int i)).length ≤ 13 ∧ i.natAbs.log2 < 1920 := by
  constructor
  · simp only [PyData.shown]
    rw [show ((toString i : Str)) = Str.ofString (toString i) from rfl, PySem.ofString_length]
    exact int_text_length_le10 (k := 12) (by decide) h
  · by_cases z : i.natAbs = 0
    · rw [z]; decide
    · exact Nat.lt_of_lt_of_le ((Nat.log2_lt z).mpr (Nat.lt_trans h (by decide : 10 ^ 12 < 2 ^ 40))) (by decide)
instance : PyD Int where
  pic := .int
  ok := fun _ => True
  okr := fun i => i.natAbs < 10 ^ 12
  size := fun _ => 0
  deep := 0
  dp := fun _ h => by cases h; exact .int _
  lay := fun _ => by simp only [PyData.canLay0]
  dep := fun _ => by simp only [PyData.depth]; omega
  eqd := fun a b => by simp only [PyData.eqv]; rfl
  sh := fun h => ⟨by simp only [PyData.leavesShort, decide_eq_true_eq]; exact (int_short h).1, by simp only [PyData.showable, decide_eq_true_eq]; exact (int_short h).2, by simp only [PyData.hasDict]⟩
  bk := fun _ => by simp only [PyData.bulk]; omega
instance : PyD Bool where
  pic := .bool
  ok := fun _ => True
  okr := fun i => True
  size := fun _ => 0
  deep := 0
  dp := fun _ h => by cases h; exact .bl _
  lay := fun _ => by simp only [PyData.canLay0]
  dep := fun _ => by simp only [PyData.depth]; omega
  eqd := fun a b => by simp only [PyData.eqv]; cases a <;> cases b <;> rfl
  sh := fun h => ⟨by simp only [PyData.leavesShort], by simp only [PyData.showable], by simp only [PyData.hasDict]⟩
  bk := fun _ => by simp only [PyData.bulk]; omega
instance : PyD Str where
  pic := .str
  ok := okS
  okr := okS
  size := fun x => x.length
  deep := 0
  dp := fun _ h => by cases h; exact .str _
  lay := fun {a} h => by
    simp only [PyData.canLay0]
    unfold PyData.strOk
    rw [← Array.all_toList]
    exact List.all_eq_true.mpr fun c hc => decide_eq_true (h c hc)
  dep := fun _ => by simp only [PyData.depth]; omega
  eqd := fun a b => by simp only [PyData.eqv]; rfl
  sh := fun {a} h => ⟨by
    simp only [PyData.leavesShort, List.all_eq_true, decide_eq_true_eq]
    exact fun c hc => Nat.lt_trans (h c hc) (by decide), by simp only [PyData.showable], by simp only [PyData.hasDict]⟩
  bk := fun _ => by simp only [PyData.bulk]; exact Nat.le_refl _
section
variable {α : Type} [DecidableEq α] [PyD α]
theorem dp_all {K : PySem.W.Frag} {G H : Hp} (e : Ex G H) : ∀ {vs : List V} {xs : List α}, All2 G vs xs → DpAll K H vs (xs.map pic)
  | _, _, .nil => .nil
  | _, _, .cons r t => .cons (PyD.dp e r) (dp_all e t)
theorem lay_all : ∀ (xs : List α), (∀ x ∈ xs, PyD.ok x) → PyData.canLayAll0 (xs.map pic) = true
  | [], _ => by simp only [List.map_nil, PyData.canLayAll0]
  | x :: r, h => by
    simp only [List.map_cons, PyData.canLayAll0, Bool.and_eq_true]
    exact ⟨PyD.lay (h x (List.mem_cons_self ..)), lay_all r fun y hy => h y (List.mem_cons_of_mem _ hy)⟩
theorem dep_all : ∀ (xs : List α), PyData.depthAll (xs.map pic) ≤ PyD.deep α
  | [] => by simp only [List.map_nil, PyData.depthAll]; omega
  | x :: r => by
    simp only [List.map_cons, PyData.depthAll]
    exact Nat.max_le.mpr ⟨PyD.dep x, dep_all r⟩
theorem eqd_all : ∀ (xs ys : List α), PyData.eqvAll (xs.map pic) (ys.map pic) = decide (xs = ys)
  | [], [] => by simp only [List.map_nil, PyData.eqvAll]; rfl
  | [], _ :: _ => by simp [PyData.eqvAll]
  | _ :: _, [] => by simp [PyData.eqvAll]
  | x :: r, y :: t => by
    simp only [List.map_cons, PyData.eqvAll, PyD.eqd, eqd_all r t]
    by_cases e : x = y
    · by_cases f : r = t <;> simp [e, f]
    · simp [e]
theorem sh_all : ∀ (xs : List α), (∀ x ∈ xs, PyD.okr x) → PyData.leavesShortAll 13 (xs.map pic) = true ∧ PyData.showableAll (xs.map pic) = true ∧ PyData.hasDictAll (xs.map pic) = false
  | [], _ => by simp only [List.map_nil, PyData.leavesShortAll, PyData.showableAll, PyData.hasDictAll]; exact ⟨trivial, trivial, trivial⟩
  | x :: r, h => by
    obtain ⟨h1, h2, h3⟩ := PyD.sh (h x (List.mem_cons_self ..))
    obtain ⟨g1, g2, g3⟩ := sh_all r fun y hy => h y (List.mem_cons_of_mem _ hy)
    simp only [List.map_cons, PyData.leavesShortAll, PyData.showableAll, PyData.hasDictAll, h1, h2, h3, g1, g2, g3]
    exact ⟨rfl, rfl, rfl⟩
def sizeL (xs : List α) : Nat := (xs.map fun x => PyD.size x + 1).sum
theorem bk_all : ∀ (xs : List α), PyData.bulkAll (xs.map pic) ≤ sizeL xs
  | [] => by simp only [List.map_nil, PyData.bulkAll]; omega
  | x :: r => by
    have h1 := PyD.bk x
    have h2 := bk_all r
    unfold sizeL at h2 ⊢
    simp only [List.map_cons, PyData.bulkAll, List.sum_cons]
    omega
instance : PyD (List α) where
  pic := fun xs => .list (xs.map pic)
  ok := fun xs => ∀ x ∈ xs, PyD.ok x
  okr := fun xs => ∀ x ∈ xs, PyD.okr x
  size := sizeL
  deep := PyD.deep α + 1
  dp := fun e ⟨a, vs, h1, h2, h3⟩ => h1 ▸ .lst (SqL.of (e a _ h2)) (dp_all e h3)
  lay := fun h => by simp only [PyData.canLay0]; exact lay_all _ h
  dep := fun xs => by simp only [PyData.depth]; have := dep_all xs; omega
  eqd := fun xs ys => by simp only [PyData.eqv]; exact eqd_all xs ys
  sh := fun h => by simp only [PyData.leavesShort, PyData.showable, PyData.hasDict]; exact sh_all _ h
  bk := fun xs => by simp only [PyData.bulk]; exact bk_all xs
instance {β : Type} [DecidableEq β] [PyD β] : PyD (α × β) where
  pic := fun p => .tuple [pic p.1, pic p.2]
  ok := fun p => PyD.ok p.1 ∧ PyD.ok p.2
  okr := fun p => PyD.okr p.1 ∧ PyD.okr p.2
  size := fun p => PyD.size p.1 + PyD.size p.2 + 2
  deep := max (PyD.deep α) (PyD.deep β) + 1
  dp := fun e ⟨a, x, y, h1, h2, h3, h4⟩ => h1 ▸ .tup (SqT.of (e a _ h2)) (.cons (PyD.dp e h3) (.cons (PyD.dp e h4) .nil))
  lay := fun h => by simp only [PyData.canLay0, PyData.canLayAll0, PyD.lay h.1, PyD.lay h.2]; rfl
  dep := fun p => by
    simp only [PyData.depth, PyData.depthAll]
    have := PyD.dep p.1
    have := PyD.dep p.2
    omega
  eqd := fun p q => by
    simp only [PyData.eqv, PyData.eqvAll, PyD.eqd, Bool.and_true]
    rw [← Bool.decide_and]
    exact decide_eq_decide.mpr ⟨fun h => Prod.ext h.1 h.2, fun h => ⟨congrArg _ h, congrArg _ h⟩⟩
  sh := fun h => by
    obtain ⟨h1, h2, h3⟩ := PyD.sh h.1
    obtain ⟨g1, g2, g3⟩ := PyD.sh h.2
    simp only [PyData.leavesShort, PyData.showable, PyData.hasDict, PyData.leavesShortAll, PyData.showableAll, PyData.hasDictAll, h1, h2, h3, g1, g2, g3]
    exact ⟨rfl, rfl, rfl⟩
  bk := fun p => by
    simp only [PyData.bulk, PyData.bulkAll]
    have := PyD.bk p.1
    have := PyD.bk p.2
    omega
theorem shaped_pic {a : α} (h : PyD.ok a) (hd : PyD.deep α ≤ 40) : SeqAt.shaped (pic a) = true := by
  unfold SeqAt.shaped
  rw [PyD.lay h, decide_eq_true (show (pic a).depth ≤ 64 from Nat.le_trans (PyD.dep a) (by omega))]
  rfl
/-- a == b, data or scalars -/
theorem o2_eq {K : PySem.W.Frag} {a b : α} (ha : PyD.ok a) (hb : PyD.ok b) (hd : PyD.deep α ≤ 40 := by decide) : Op2 (rEqU K) a b (· = decide (a = b)) := fun B O G H v w s hv hw Q q =>
  .inl ⟨pic a, pic b, PyD.dp s.ex hv, PyD.dp s.ex hw, shaped_pic ha hd, shaped_pic hb hd, q _ _ G H rfl Ex.r s (by rw [PyD.eqd]; rfl)⟩
theorem o2_ne {K : PySem.W.Frag} {a b : α} (ha : PyD.ok a) (hb : PyD.ok b) (hd : PyD.deep α ≤ 40 := by decide) : Op2 (rNeU K) a b (· = !decide (a = b)) := fun B O G H v w s hv hw Q q =>
  .inl ⟨pic a, pic b, PyD.dp s.ex hv, PyD.dp s.ex hw, shaped_pic ha hd, shaped_pic hb hd, q _ _ G H rfl Ex.r s (by rw [PyD.eqd]; rfl)⟩
end
section
variable {K : PySem.W.Frag}
theorem dec_congr {p q : Prop} [Decidable p] [Decidable q] (h : p ↔ q) : decide p = decide q := decide_eq_decide.mpr h
theorem o2_eqS {a b : Str} : Op2 (rEqU K) a b (· = decide (a = b)) := o2_val fun G H v w hv hw Q q => .inr ⟨by cases hv; cases hw; rfl, q _ _ rfl (by cases hv; cases hw; exact congrArg V.bl (dec_congr ⟨fun h => V.str.inj h, fun h => h ▸ rfl⟩))⟩
theorem o2_neS {a b : Str} : Op2 (rNeU K) a b (· = !decide (a = b)) := o2_val fun G H v w hv hw Q q => .inr ⟨by cases hv; cases hw; rfl, q _ _ rfl (by cases hv; cases hw; exact congrArg (fun x => V.bl (!x)) (dec_congr ⟨fun h => V.str.inj h, fun h => h ▸ rfl⟩))⟩
theorem o2_eqI {a b : Int} : Op2 (rEqU K) a b (· = decide (a = b)) := o2_val fun G H v w hv hw Q q => .inr ⟨by cases hv; cases hw; rfl, q _ _ rfl (by cases hv; cases hw; exact congrArg V.bl (dec_congr ⟨fun h => V.int.inj h, fun h => h ▸ rfl⟩))⟩
theorem o2_neI {a b : Int} : Op2 (rNeU K) a b (· = !decide (a = b)) := o2_val fun G H v w hv hw Q q => .inr ⟨by cases hv; cases hw; rfl, q _ _ rfl (by cases hv; cases hw; exact congrArg (fun x => V.bl (!x)) (dec_congr ⟨fun h => V.int.inj h, fun h => h ▸ rfl⟩))⟩
end
end Dk

set_option Elab.async false
set_option linter.all false
set_option maxRecDepth 100000
set_option maxHeartbeats 1000000
namespace Dk
open PySem PySem.Spec PyProof.Rows L2
open Evl (Ex)
open Py (rp)
open PyD (pic)

section
variable {α β γ δ : Type} [Py α] [Py β] [Py γ] [Py δ] {B : Option Addr} {te ta tb tc : TE} {tt tu : TT} {σ : L2.St} {G H : Hp} {O : List (Addr × HO)} {K : PySem.W.Frag}
/-! ### tests -/
theorem et_val {P : Bool → Prop} (h : EvP B O te σ G P) : EvT B O (tB te) σ G P := fun G1 H1 e s Q q => h G1 H1 e s _ fun v b G2 H2 p e2 s2 r => ⟨b, r, q b G2 H2 p e2 s2⟩
theorem et_test {P : Bool → Prop} (h : EvP B O te σ G P) : EvT B O (tTest te) σ G P := fun G1 H1 e s Q q => h G1 H1 e s _ fun v b G2 H2 p e2 s2 r => ⟨b, r, q b G2 H2 p e2 s2⟩
theorem et_not {P : Bool → Prop} {b : Bool} (h : EtD B O tt σ G b) : EtD B O (tNot tt) σ G (!b) := fun G1 H1 e s Q q => h G1 H1 e s _ fun b G2 H2 p e2 s2 => q _ G2 H2 (by rw [p]) e2 s2
theorem et_and {a b : Bool} (h1 : EtD B O tt σ G a) (h2 : a = true → EtD B O tu σ G b) : EtD B O (tAnd tt tu) σ G (a && b) := fun G1 H1 e s Q q => h1 G1 H1 e s _ fun c G2 H2 p e2 s2 => by
  subst p
  cases c with
  | true => exact h2 rfl G2 H2 (Ex.t e e2) s2 Q fun d G3 H3 p3 e3 s3 => q d G3 H3 (by rw [p3]; rfl) (Ex.t e2 e3) s3
  | false => exact q false G2 H2 rfl e2 s2
theorem et_or {a b : Bool} (h1 : EtD B O tt σ G a) (h2 : a = false → EtD B O tu σ G b) : EtD B O (tOr tt tu) σ G (a || b) := fun G1 H1 e s Q q => h1 G1 H1 e s _ fun c G2 H2 p e2 s2 => by
  subst p
  cases c with
  | true => exact q true G2 H2 rfl e2 s2
  | false => exact h2 rfl G2 H2 (Ex.t e e2) s2 Q fun d G3 H3 p3 e3 s3 => q d G3 H3 (by rw [p3]; rfl) (Ex.t e2 e3) s3
theorem et_andP {P R : Bool → Prop} (h1 : EvT B O tt σ G P) (h2 : P true → EvT B O tu σ G R) : EvT B O (tAnd tt tu) σ G (fun c => (c = false ∧ P false) ∨ (P true ∧ R c)) := fun G1 H1 e s Q q => h1 G1 H1 e s _ fun c G2 H2 p e2 s2 => by
  cases c with
  | true => exact h2 p G2 H2 (Ex.t e e2) s2 Q fun d G3 H3 p3 e3 s3 => q d G3 H3 (.inr ⟨p, p3⟩) (Ex.t e2 e3) s3
  | false => exact q false G2 H2 (.inl ⟨rfl, p⟩) e2 s2
theorem et_any (h : EvT B O tt σ G fun _ => True) : EvT B O (tNot tt) σ G fun _ => True := fun G1 H1 e s Q q => h G1 H1 e s _ fun b G2 H2 p e2 s2 => q _ G2 H2 trivial e2 s2
theorem ev_notV {b : Bool} (h : EvD B O te σ G b) : EvD B O (tNotV te) σ G (!b) := fun G1 H1 e s Q q => h G1 H1 e s _ fun v c G2 H2 p e2 s2 r => ⟨c, r, q _ _ G2 H2 (by rw [p]) e2 s2 rfl⟩
theorem ev_andV {a b : Bool} (h1 : EvD B O ta σ G a) (h2 : a = true → EvD B O tb σ G b) : EvD B O (tAndV ta tb) σ G (a && b) := fun G1 H1 e s Q q => h1 G1 H1 e s _ fun v c G2 H2 p e2 s2 r => ⟨c, r, by
  subst p
  cases c with
  | true => exact h2 rfl G2 H2 (Ex.t e e2) s2 Q fun w d G3 H3 p3 e3 s3 r3 => q w d G3 H3 (by rw [p3]; rfl) (Ex.t e2 e3) s3 r3
  | false => exact q _ false G2 H2 rfl e2 s2 rfl⟩
theorem ev_orV {a b : Bool} (h1 : EvD B O ta σ G a) (h2 : a = false → EvD B O tb σ G b) : EvD B O (tOrV ta tb) σ G (a || b) := fun G1 H1 e s Q q => h1 G1 H1 e s _ fun v c G2 H2 p e2 s2 r => ⟨c, r, by
  subst p
  cases c with
  | true => exact q _ true G2 H2 rfl e2 s2 rfl
  | false => exact h2 rfl G2 H2 (Ex.t e e2) s2 Q fun w d G3 H3 p3 e3 s3 r3 => q w d G3 H3 (by rw [p3]; rfl) (Ex.t e2 e3) s3 r3⟩
theorem ev_ifE {b : Bool} {P : α → Prop} (h : EtD B O tt σ G b) (h1 : b = true → EvP B O ta σ G P) (h2 : b = false → EvP B O tb σ G P) : EvP B O (tIf tt ta tb) σ G P := fun G1 H1 e s Q q => h G1 H1 e s _ fun c G2 H2 p e2 s2 => by
  subst p
  cases c with
  | true => exact h1 rfl G2 H2 (Ex.t e e2) s2 Q fun w d G3 H3 p3 e3 s3 r3 => q w d G3 H3 p3 (Ex.t e2 e3) s3 r3
  | false => exact h2 rfl G2 H2 (Ex.t e e2) s2 Q fun w d G3 H3 p3 e3 s3 r3 => q w d G3 H3 p3 (Ex.t e2 e3) s3 r3
/-- a < b < c -/
theorem ev_chain {r r' : R2} {x : α} {y : β} {z : γ} {k m : Bool} (ha : EvD B O ta σ G x) (hb : EvD B O tb σ G y) (h : Op2 r x y (· = k)) (hc : k = true → EvD B O tc σ G z) (h' : k = true → Op2 r' y z (· = m)) : EvD B O (tChain r r' ta tb tc) σ G (k && m) := fun G1 H1 e1 s Q q =>
  ha G1 H1 e1 s _ fun v x' G2 H2 px e2 s2 rv => hb G2 H2 (Ex.t e1 e2) s2 _ fun w y' G3 H3 py e3 s3 rw => by
    subst px; subst py
    refine h B O G3 H3 v w s3 (Py.up e3 rv) rw _ fun u z' G4 H4 pz e4 s4 ru => ⟨z', ru, ?_⟩
    subst pz
    cases z' with
    | true =>
      rw [if_pos rfl]
      exact hc rfl G4 H4 (Ex.t e1 (Ex.t e2 (Ex.t e3 e4))) s4 _ fun t c' G5 H5 pc e5 s5 rt => by
        subst pc
        exact h' rfl B O G5 H5 w t s5 (Py.up (Ex.t e4 e5) rw) rt Q fun u m' G6 H6 pm e6 s6 r6 => q u m' G6 H6 (by rw [pm]; rfl) (Ex.t e2 (Ex.t e3 (Ex.t e4 (Ex.t e5 e6)))) s6 r6
    | false =>
      rw [if_neg Bool.false_ne_true]
      exact q _ false G4 H4 rfl (Ex.t e2 (Ex.t e3 e4)) s4 rfl

/-! ### arguments, calls -/
abbrev Ar (A : Type) := Option Addr → Hp → List V → A → Prop
def a0 : Ar Unit := fun _ _ vs _ => vs = []
def a1 [Py α] : Ar α := fun _ G vs a => ∃ v, vs = [v] ∧ rp G v a
def a2 [Py α] [Py β] : Ar (α × β) := fun _ G vs p => ∃ v w, vs = [v, w] ∧ rp G v p.1 ∧ rp G w p.2
def a3 [Py α] [Py β] [Py γ] : Ar (α × β × γ) := fun _ G vs p => ∃ v w u, vs = [v, w, u] ∧ rp G v p.1 ∧ rp G w p.2.1 ∧ rp G u p.2.2
def b0 : Ar Unit := fun B _ vs _ => ∃ b, B = some b ∧ vs = [.ref b]
def b1 [Py α] : Ar α := fun B G vs a => ∃ b v, B = some b ∧ vs = [.ref b, v] ∧ rp G v a
def b2 [Py α] [Py β] : Ar (α × β) := fun B G vs p => ∃ b v w, B = some b ∧ vs = [.ref b, v, w] ∧ rp G v p.1 ∧ rp G w p.2
def b3 [Py α] [Py β] [Py γ] : Ar (α × β × γ) := fun B G vs p => ∃ b v w u, B = some b ∧ vs = [.ref b, v, w, u] ∧ rp G v p.1 ∧ rp G w p.2.1 ∧ rp G u p.2.2
/-- a def's promise: a value | a new list -/
def SpF {A : Type} [Py γ] (ar : Ar A) (pre : A → Prop) (post : A → γ → Prop) : Sp := fun vs H Q _ => ∃ B O G a, Sx B O G H ∧ ar B G vs a ∧ pre a ∧ ∀ v r G' H', post a r → Ex G G' → Sx B O G' H' → rp G' v r → Q v H'
def SpN {A : Type} [Py γ] (ar : Ar A) (pre : A → Prop) (post : A → List γ → Prop) : Sp := fun vs H Q _ => ∃ B O G a, Sx B O G H ∧ ar B G vs a ∧ pre a ∧ ∀ p ws r G' H', post a r → Ex G G' → Sx B ((p, .lst ws) :: O) G' H' → All2 G' ws r → Q (.ref p) H'
def EvA {A : Type} (B : Option Addr) (O : List (Addr × HO)) (ta : TA) (σ : L2.St) (G : Hp) (ar : Ar A) (P : A → Prop) : Prop :=
  ∀ G1 H1, Ex G G1 → Sx B O G1 H1 → ∀ Q : List V → Hp → Prop, (∀ vs a G2 H2, P a → Ex G1 G2 → Sx B O G2 H2 → ar B G2 vs a → Q vs H2) → ta σ H1 Q
abbrev EaD {A : Type} (B : Option Addr) (O : List (Addr × HO)) (ta : TA) (σ : L2.St) (G : Hp) (ar : Ar A) (a : A) : Prop := EvA B O ta σ G ar fun r => r = a
theorem ea_0 : EaD B O tNil σ G a0 () := fun G1 H1 e s Q q => q [] () G1 H1 rfl Ex.r s rfl
theorem ea_1 {P : α → Prop} (h : EvP B O ta σ G P) : EvA B O (tCons ta tNil) σ G a1 P := fun G1 H1 e s Q q => h G1 H1 e s _ fun v a G2 H2 p e2 s2 r => q [v] a G2 H2 p e2 s2 ⟨v, rfl, r⟩
theorem ea_2 {a : α} {b : β} (h : EvD B O ta σ G a) (h' : EvD B O tb σ G b) : EaD B O (tCons ta (tCons tb tNil)) σ G a2 (a, b) := fun G1 H1 e s Q q => h G1 H1 e s _ fun v a G2 H2 p e2 s2 r =>
  h' G2 H2 (Ex.t e e2) s2 _ fun w b G3 H3 p3 e3 s3 r3 => q [v, w] (a, b) G3 H3 (by rw [p, p3]) (Ex.t e2 e3) s3 ⟨v, w, rfl, Py.up e3 r, r3⟩
theorem ea_2P {P : α → Prop} {R : β → Prop} (h : EvP B O ta σ G P) (h' : EvP B O tb σ G R) : EvA B O (tCons ta (tCons tb tNil)) σ G a2 (fun p => P p.1 ∧ R p.2) := fun G1 H1 e s Q q => h G1 H1 e s _ fun v a G2 H2 p e2 s2 r =>
  h' G2 H2 (Ex.t e e2) s2 _ fun w b G3 H3 p3 e3 s3 r3 => q [v, w] (a, b) G3 H3 ⟨p, p3⟩ (Ex.t e2 e3) s3 ⟨v, w, rfl, Py.up e3 r, r3⟩
theorem ea_3 {a : α} {b : β} {c : γ} (h : EvD B O ta σ G a) (h' : EvD B O tb σ G b) (h'' : EvD B O tc σ G c) : EaD B O (tCons ta (tCons tb (tCons tc tNil))) σ G a3 (a, b, c) := fun G1 H1 e s Q q => h G1 H1 e s _ fun v a G2 H2 p e2 s2 r =>
  h' G2 H2 (Ex.t e e2) s2 _ fun w b G3 H3 p3 e3 s3 r3 => h'' G3 H3 (Ex.t e (Ex.t e2 e3)) s3 _ fun u c G4 H4 p4 e4 s4 r4 =>
    q [v, w, u] (a, b, c) G4 H4 (by rw [p, p3, p4]) (Ex.t e2 (Ex.t e3 e4)) s4 ⟨v, w, u, rfl, Py.up (Ex.t e3 e4) r, Py.up e4 r3, r4⟩
theorem eb_0 {b : Addr} {i : Nat} (h : σ[i]? = some (some (.ref b))) : EaD (some b) O (tCons (tVar i) tNil) σ G b0 () := fun G1 H1 e s Q q => ⟨_, h, q _ () G1 H1 rfl Ex.r s ⟨b, rfl, rfl⟩⟩
theorem eb_1 {b : Addr} {i : Nat} {P : α → Prop} (h : σ[i]? = some (some (.ref b))) (ha : EvP (some b) O ta σ G P) : EvA (some b) O (tCons (tVar i) (tCons ta tNil)) σ G b1 P := fun G1 H1 e s Q q =>
  ⟨_, h, ha G1 H1 e s _ fun v a G2 H2 p e2 s2 r => q _ a G2 H2 p e2 s2 ⟨b, v, rfl, rfl, r⟩⟩
theorem eb_2P {b : Addr} {i : Nat} {P : α → Prop} {R : β → Prop} (h : σ[i]? = some (some (.ref b))) (ha : EvP (some b) O ta σ G P) (hb : EvP (some b) O tb σ G R) : EvA (some b) O (tCons (tVar i) (tCons ta (tCons tb tNil))) σ G b2 (fun p => P p.1 ∧ R p.2) := fun G1 H1 e s Q q =>
  ⟨_, h, ha G1 H1 e s _ fun v a G2 H2 p e2 s2 r => hb G2 H2 (Ex.t e e2) s2 _ fun w c G3 H3 p3 e3 s3 r3 => q _ (a, c) G3 H3 ⟨p, p3⟩ (Ex.t e2 e3) s3 ⟨b, v, w, rfl, rfl, Py.up e3 r, r3⟩⟩
theorem eb_2 {b : Addr} {i : Nat} {a : α} {c : β} (h : σ[i]? = some (some (.ref b))) (ha : EvD (some b) O ta σ G a) (hb : EvD (some b) O tb σ G c) : EaD (some b) O (tCons (tVar i) (tCons ta (tCons tb tNil))) σ G b2 (a, c) := fun G1 H1 e s Q q =>
  eb_2P h ha hb G1 H1 e s Q fun vs p G2 H2 pp => q vs p G2 H2 (Prod.ext pp.1 pp.2)
theorem eb_3P {b : Addr} {i : Nat} {P : α → Prop} {R : β → Prop} {S : γ → Prop} (h : σ[i]? = some (some (.ref b))) (ha : EvP (some b) O ta σ G P) (hb : EvP (some b) O tb σ G R) (hc : EvP (some b) O tc σ G S) :
    EvA (some b) O (tCons (tVar i) (tCons ta (tCons tb (tCons tc tNil)))) σ G b3 (fun p => P p.1 ∧ R p.2.1 ∧ S p.2.2) := fun G1 H1 e s Q q =>
  ⟨_, h, ha G1 H1 e s _ fun v a G2 H2 p e2 s2 r => hb G2 H2 (Ex.t e e2) s2 _ fun w c G3 H3 p3 e3 s3 r3 => hc G3 H3 (Ex.t e (Ex.t e2 e3)) s3 _ fun u d G4 H4 p4 e4 s4 r4 =>
    q _ (a, c, d) G4 H4 ⟨p, p3, p4⟩ (Ex.t e2 (Ex.t e3 e4)) s4 ⟨b, v, w, u, rfl, rfl, Py.up (Ex.t e3 e4) r, Py.up e4 r3, r4⟩⟩
theorem EvA.imp {A : Type} {ta : TA} {ar : Ar A} {P R : A → Prop} (h : EvA B O ta σ G ar P) (i : ∀ a, P a → R a) : EvA B O ta σ G ar R := fun G1 H1 e s Q q => h G1 H1 e s Q fun vs a G2 H2 p => q vs a G2 H2 (i a p)
theorem ev_callP {A : Type} {ar : Ar A} {pre : A → Prop} {post : A → γ → Prop} {P : A → Prop} {ta : TA} {E : XK} (h : EvA B O ta σ G ar P) (hp : ∀ a, P a → pre a) : EvP B O (tCall (SpF ar pre post) [] E ta) σ G fun r => ∃ a, P a ∧ post a r := fun G1 H1 e s Q q =>
  h G1 H1 e s _ fun vs a G2 H2 p e2 s2 r => ⟨B, O, G2, a, s2, by rw [List.append_nil]; exact r, hp a p, fun v z G3 H3 pz e3 s3 rz => q v z G3 H3 ⟨a, p, pz⟩ (Ex.t e2 e3) s3 rz⟩
theorem ev_call {A : Type} {ar : Ar A} {pre : A → Prop} {post : A → γ → Prop} {a : A} {ta : TA} {E : XK} (h : EaD B O ta σ G ar a) (hp : pre a) : EvP B O (tCall (SpF ar pre post) [] E ta) σ G (post a) :=
  (ev_callP h fun _ e => e ▸ hp).imp fun r ⟨_, e, h⟩ => e ▸ h
theorem en_callP {A : Type} {ar : Ar A} {pre : A → Prop} {post : A → List γ → Prop} {P : A → Prop} {ta : TA} {E : XK} (h : EvA B O ta σ G ar P) (hp : ∀ a, P a → pre a) : EvN B O (tCall (SpN ar pre post) [] E ta) σ G fun r => ∃ a, P a ∧ post a r := fun G1 H1 e s Q q =>
  h G1 H1 e s _ fun vs a G2 H2 p e2 s2 r => ⟨B, O, G2, a, s2, by rw [List.append_nil]; exact r, hp a p, fun l ws z G3 H3 pz e3 s3 rz => q l ws z G3 H3 ⟨a, p, pz⟩ (Ex.t e2 e3) s3 rz⟩
theorem en_call {A : Type} {ar : Ar A} {pre : A → Prop} {post : A → List γ → Prop} {a : A} {ta : TA} {E : XK} (h : EaD B O ta σ G ar a) (hp : pre a) : EvN B O (tCall (SpN ar pre post) [] E ta) σ G (post a) :=
  (en_callP h fun _ e => e ▸ hp).imp fun r ⟨_, e, h⟩ => e ▸ h

/-! ### displays, subscripts, slices, built-ins -/
def EvL (B : Option Addr) (O : List (Addr × HO)) (ta : TA) (σ : L2.St) (G : Hp) (P : List α → Prop) : Prop :=
  ∀ G1 H1, Ex G G1 → Sx B O G1 H1 → ∀ Q : List V → Hp → Prop, (∀ vs xs G2 H2, P xs → Ex G1 G2 → Sx B O G2 H2 → All2 G2 vs xs → Q vs H2) → ta σ H1 Q
abbrev ElD (B : Option Addr) (O : List (Addr × HO)) (ta : TA) (σ : L2.St) (G : Hp) (xs : List α) : Prop := EvL B O ta σ G fun r => r = xs
theorem el_nil : ElD (α := α) B O tNil σ G [] := fun G1 H1 e s Q q => q [] [] G1 H1 rfl Ex.r s .nil
theorem el_cons {a : α} {xs : List α} {tr : TA} (h : EvD B O ta σ G a) (hr : ElD B O tr σ G xs) : ElD B O (tCons ta tr) σ G (a :: xs) := fun G1 H1 e s Q q => h G1 H1 e s _ fun v b G2 H2 p e2 s2 r =>
  hr G2 H2 (Ex.t e e2) s2 _ fun vs ys G3 H3 p3 e3 s3 r3 => q (v :: vs) (b :: ys) G3 H3 (by rw [p, p3]) (Ex.t e2 e3) s3 (.cons (Py.up e3 r) r3)
theorem el_consP {P : α → Prop} {R : List α → Prop} {tr : TA} (h : EvP B O ta σ G P) (hr : EvL B O tr σ G R) : EvL B O (tCons ta tr) σ G (fun l => ∃ a r, l = a :: r ∧ P a ∧ R r) := fun G1 H1 e s Q q => h G1 H1 e s _ fun v b G2 H2 p e2 s2 r =>
  hr G2 H2 (Ex.t e e2) s2 _ fun vs ys G3 H3 p3 e3 s3 r3 => q (v :: vs) (b :: ys) G3 H3 ⟨b, ys, rfl, p, p3⟩ (Ex.t e2 e3) s3 (.cons (Py.up e3 r) r3)
theorem en_lst {P : List α → Prop} {ta : TA} (h : EvL B O ta σ G P) (hz : ∀ xs, P xs → xs.length ≤ 1000000) : EvN B O (tLst ta) σ G P := fun G1 H1 e s Q q => h G1 H1 e s _ fun vs xs G2 H2 p e2 s2 r =>
  ⟨line_le (by rw [all2_len r]; exact hz xs p), fun l hl => q l vs xs G2 _ p e2 (s2.mine hl) r⟩
theorem en_lstD {xs : List α} {ta : TA} (h : ElD B O ta σ G xs) (hz : xs.length ≤ 1000000) : EvM B O (tLst ta) σ G xs := en_lst h fun _ e => e ▸ hz
theorem ev_pair {P : α → Prop} {R : β → Prop} (h : EvP B O ta σ G P) (h' : EvP B O tb σ G R) : EvP B O (tTup (tCons ta (tCons tb tNil))) σ G fun p : α × β => P p.1 ∧ R p.2 := fun G1 H1 e s Q q => h G1 H1 e s _ fun v a G2 H2 p e2 s2 r =>
  h' G2 H2 (Ex.t e e2) s2 _ fun w b G3 H3 p3 e3 s3 r3 => ⟨line_le (by show 2 ≤ 1000000; decide), fun l hl => q (.ref l) (a, b) _ _ ⟨p, p3⟩ (Ex.t (Ex.t e2 e3) (s3.grow hl)) (s3.still hl)
    ⟨l, v, w, rfl, upd_same, Py.up (Ex.t e3 (s3.grow hl)) r, Py.up (s3.grow hl) r3⟩⟩
theorem ev_pairD {a : α} {b : β} (h : EvD B O ta σ G a) (h' : EvD B O tb σ G b) : EvD B O (tTup (tCons ta (tCons tb tNil))) σ G (a, b) := (ev_pair h h').imp fun _ h => Prod.ext h.1 h.2
/-- xs[i] -/
theorem o2_ixL {xs : List α} {i : Int} {a : α} (h0 : 0 ≤ i) (h : xs[i.toNat]? = some a) : Op2 (rIx K) xs i (· = a) := fun B O G H v w s hv hw Q q => by
  obtain ⟨p, vs, rfl, hp, r⟩ := hv
  obtain ⟨u, hu, ru⟩ := all2_get r h
  refine .inl ⟨p, vs, i, u, rfl, hw, SqL.of (s.ex p _ hp), ?_, q u a G H rfl Ex.r s ru⟩
  have e : i = (i.toNat : Int) := (Int.toNat_of_nonneg h0).symm
  rw [e]
  exact atI_nat hu
theorem o2_ixLast {xs : List α} {a : α} (h : xs.getLast? = some a) : Op2 (rIx K) xs (-1 : Int) (· = a) := fun B O G H v w s hv hw Q q => by
  obtain ⟨p, vs, rfl, hp, r⟩ := hv
  have hl := all2_len r
  have hx : xs[xs.length - 1]? = some a := by rw [← List.getLast?_eq_getElem?]; exact h
  obtain ⟨u, hu, ru⟩ := all2_get r hx
  refine .inl ⟨p, vs, -1, u, rfl, hw, SqL.of (s.ex p _ hp), ?_, q u a G H rfl Ex.r s ru⟩
  have hpos : 0 < xs.length := by
    have := (List.getElem?_eq_some_iff.mp hx).1
    omega
  have e : ixN vs.length (-1) = some (xs.length - 1) := by
    unfold ixN
    rw [if_neg (by omega), if_pos (by omega)]
    congr 1
    omega
  unfold atI
  rw [e]
  exact hu
theorem o2_ix0 {a : α} {b : β} : Op2 (rIx K) (a, b) (0 : Int) (· = a) := fun B O G H v w s hv hw Q q => by
  obtain ⟨p, x, y, rfl, hp, rx, ry⟩ := hv
  exact .inr (.inl ⟨p, [x, y], 0, x, rfl, hw, SqT.of (s.ex p _ hp), rfl, q x a G H rfl Ex.r s rx⟩)
theorem o2_ix1 {a : α} {b : β} : Op2 (rIx K) (a, b) (1 : Int) (· = b) := fun B O G H v w s hv hw Q q => by
  obtain ⟨p, x, y, rfl, hp, rx, ry⟩ := hv
  exact .inr (.inl ⟨p, [x, y], 1, y, rfl, hw, SqT.of (s.ex p _ hp), rfl, q y b G H rfl Ex.r s ry⟩)
theorem o2_ixS {z : Str} {i : Int} {c : Nat} (h0 : 0 ≤ i) (h : z.cps.toList[i.toNat]? = some c) (hz : z.length ≤ 1000000) : Op2 (rIx K) z i (· = (⟨#[c]⟩ : Str)) := fun B O G H v w s hv hw Q q => by
  refine .inr (.inr ⟨z, i, c, hv, hw, line_le hz, ?_, q _ _ G H rfl Ex.r s rfl⟩)
  have e : i = (i.toNat : Int) := (Int.toNat_of_nonneg h0).symm
  rw [e]
  exact atI_nat h
end
end Dk

set_option Elab.async false
set_option linter.all false
set_option maxRecDepth 100000
set_option maxHeartbeats 1000000
namespace Dk
open PySem PySem.Spec PyProof.Rows L2
open Evl (Ex)
open Py (rp)
open PyD (pic)
section
variable {α β γ δ : Type} [Py α] [Py β] [Py γ] [Py δ] {B : Option Addr} {te ta tb tc : TE} {tt tu : TT} {σ : L2.St} {G H : Hp} {O : List (Addr × HO)} {K : PySem.W.Frag}
/-! ### slices -/
def EvO (B : Option Addr) (O : List (Addr × HO)) (to : TO) (σ : L2.St) (G : Hp) (o : Option Int) : Prop :=
  ∀ G1 H1, Ex G G1 → Sx B O G1 H1 → ∀ Q : Option Int → Hp → Prop, (∀ G2 H2, Ex G1 G2 → Sx B O G2 H2 → Q o H2) → to σ H1 Q
theorem eo_none : EvO B O tNoPart σ G none := fun G1 H1 e s Q q => q G1 H1 Ex.r s
theorem eo_some {i : Int} (h : EvD B O te σ G i) : EvO B O (tPart te) σ G (some i) := fun G1 H1 e s Q q => h G1 H1 e s _ fun v j G2 H2 p e2 s2 r => ⟨j, r, by rw [p]; exact q G2 H2 e2 s2⟩
def cutL (xs : List α) (lo hi : Option Int) : List α := (xs.drop (HT.sIx xs.length 0 lo)).take (HT.sIx xs.length xs.length hi - HT.sIx xs.length 0 lo)
def rCut (K : PySem.W.Frag) : V → Option Int → Option Int → Hp → VK → Prop := fun x lo hi H Q => rSlL K x lo hi H Q ∨ rSlS x lo hi H Q
theorem sl_any {X : Cx} : SlR X (rCut X.K) := SlR.or sl_list sl_str
theorem en_cut {xs : List α} {lo hi : Option Int} {tl th : TO} (h : EvD B O te σ G xs) (h1 : EvO B O tl σ G lo) (h2 : EvO B O th σ G hi) : EvM B O (tSl (rCut K) te tl th) σ G (cutL xs lo hi) := fun G1 H1 e s Q q =>
  h G1 H1 e s _ fun v ys G2 H2 p e2 s2 r => h1 G2 H2 (Ex.t e e2) s2 _ fun G3 H3 e3 s3 => h2 G3 H3 (Ex.t e (Ex.t e2 e3)) s3 _ fun G4 H4 e4 s4 => by
    subst p
    obtain ⟨a, vs, rfl, ha, ra⟩ := r
    have e34 := Ex.t e3 e4
    refine .inl ⟨a, vs, rfl, SqL.of (s4.ex a _ (e34 a _ ha)), fun l hl => q l _ _ G4 _ rfl (Ex.t e2 e34) (s4.mine hl) ?_⟩
    unfold cutV cutL
    rw [all2_len ra]
    exact all2_take _ (all2_drop _ (all2_up e34 ra))
theorem ev_cutS {z : Str} {lo hi : Option Int} {tl th : TO} (h : EvD B O te σ G z) (h1 : EvO B O tl σ G lo) (h2 : EvO B O th σ G hi) (hz : z.length ≤ 1000000) : EvD B O (tSl (rCut K) te tl th) σ G (cutS z lo hi) := fun G1 H1 e s Q q =>
  h G1 H1 e s _ fun v ys G2 H2 p e2 s2 r => h1 G2 H2 (Ex.t e e2) s2 _ fun G3 H3 e3 s3 => h2 G3 H3 (Ex.t e (Ex.t e2 e3)) s3 _ fun G4 H4 e4 s4 => by
    subst p
    exact .inr ⟨ys, r, line_le hz, q _ _ G4 H4 rfl (Ex.t e2 (Ex.t e3 e4)) s4 rfl⟩

/-! ### built-ins -/
def rLen (K : PySem.W.Frag) : List V → Hp → VK → Prop := fun xs H Q => ∃ x n, xs = [x] ∧ LenV K x H n ∧ Q (.int n) H
theorem cr_len {X : Cx} : CallR X (.builtin "len") (rLen X.K) := call_len
theorem ev_len {P : List α → Prop} (h : EvP B O te σ G P) : EvP B O (tCB (rLen K) (tCons te tNil)) σ G fun n : Int => ∃ xs, P xs ∧ n = (xs.length : Int) := fun G1 H1 e s Q q =>
  h G1 H1 e s _ fun v xs G2 H2 p e2 s2 ⟨a, vs, ev, ha, ra⟩ => ⟨v, vs.length, rfl, by rw [ev]; exact .inl ⟨vs, SqL.of (s2.ex a _ ha), rfl⟩, q _ _ G2 H2 ⟨xs, p, by rw [all2_len ra]⟩ e2 s2 rfl⟩
theorem ev_lenD {xs : List α} (h : EvD B O te σ G xs) : EvD B O (tCB (rLen K) (tCons te tNil)) σ G (xs.length : Int) := (ev_len h).imp fun n ⟨_, e, h⟩ => e ▸ h
theorem ev_lenS {z : Str} (h : EvD B O te σ G z) (hz : z.length ≤ 1000000) : EvD B O (tCB (rLen K) (tCons te tNil)) σ G (z.length : Int) := fun G1 H1 e s Q q =>
  h G1 H1 e s _ fun v x G2 H2 p e2 s2 r => ⟨v, z.length, rfl, by cases r; cases p; exact ⟨line_le hz, rfl⟩, q _ _ G2 H2 rfl e2 s2 rfl⟩
theorem ev_lenU {t : Tu α} (h : EvD B O te σ G t) : EvD B O (tCB (rLen K) (tCons te tNil)) σ G (t.items.length : Int) := fun G1 H1 e s Q q =>
  h G1 H1 e s _ fun v x G2 H2 p e2 s2 ⟨a, vs, ev, ha, ra⟩ => ⟨v, vs.length, rfl, by rw [ev]; exact .inr ⟨vs, SqT.of (s2.ex a _ ha), rfl⟩, q _ _ G2 H2 (by rw [all2_len ra, p]) e2 s2 rfl⟩
theorem ev_lenP {p : α × β} (h : EvD B O te σ G p) : EvD B O (tCB (rLen K) (tCons te tNil)) σ G (2 : Int) := fun G1 H1 e s Q q =>
  h G1 H1 e s _ fun v x G2 H2 p e2 s2 ⟨a, x1, y1, ev, ha, _, _⟩ => ⟨v, 2, rfl, by rw [ev]; exact .inr ⟨_, SqT.of (s2.ex a _ ha), rfl⟩, q _ _ G2 H2 rfl e2 s2 rfl⟩
/-- len(set(xs)) -/
theorem ev_lenSet {P : Program} {w : World} {xs : List Str} (h : EvD B O te σ G xs) (hd : (dd (xs.map Sum.inr)).length ≤ 4000) : EvD B O (tCB (rLenK P w) (tCons (tCB (rSetK K P w) (tCons te tNil)) tNil)) σ G ((dd (xs.map Sum.inr)).length : Int) := fun G1 H1 e s Q q =>
  h G1 H1 e s _ fun v ys G2 H2 p e2 s2 ⟨a, vs, ev, ha, ra⟩ => by
    subst p
    refine ⟨a, ys.map Sum.inr, by rw [ev], ?_, by have : scanBound = 4096 := rfl; omega, fun l hl => ⟨l, _, _, rfl, upd_same, q _ _ _ _ rfl (Ex.t e2 (s2.grow hl)) (s2.still hl) rfl⟩⟩
    rw [List.map_map]
    exact SqL.of (s2.ex a _ (by rw [ha, all2_strs ra]; rfl))
def rInt : List V → Hp → VK → Prop := fun xs H Q => (∃ i, xs = [.int i] ∧ Q (.int i) H) ∨ ∃ k, xs = [.bl k] ∧ Q (.int (if k then 1 else 0)) H
theorem cr_int {X : Cx} : CallR X (.type "int") rInt := call_int1
def b2n (b : Bool) : Int := if b then 1 else 0
theorem ev_intB {b : Bool} (h : EvD B O te σ G b) : EvD B O (tCB rInt (tCons te tNil)) σ G (b2n b) := fun G1 H1 e s Q q =>
  h G1 H1 e s _ fun v c G2 H2 p e2 s2 r => .inr ⟨c, by rw [r], q _ _ G2 H2 (by rw [p]; rfl) e2 s2 rfl⟩
def rMax2 : List V → Hp → VK → Prop := fun xs H Q => ∃ i j, xs = [.int i, .int j] ∧ Q (.int (if j > i then j else i)) H
def rMin2 : List V → Hp → VK → Prop := fun xs H Q => ∃ i j, xs = [.int i, .int j] ∧ Q (.int (if j < i then j else i)) H
theorem cr_max2 {X : Cx} (hc : X.calm = true) : CallR X (.builtin "max") rMax2 := call_max2 hc
theorem cr_min2 {X : Cx} (hc : X.calm = true) : CallR X (.builtin "min") rMin2 := call_min2 hc
theorem ev_max2 {i j : Int} (h : EvD B O ta σ G i) (h' : EvD B O tb σ G j) : EvD B O (tCB rMax2 (tCons ta (tCons tb tNil))) σ G (max i j) := fun G1 H1 e s Q q =>
  h G1 H1 e s _ fun v i' G2 H2 p e2 s2 r => h' G2 H2 (Ex.t e e2) s2 _ fun w j' G3 H3 p3 e3 s3 r3 => ⟨i', j', by rw [r, r3], q _ _ G3 H3 (by rw [p, p3]; split <;> omega) (Ex.t e2 e3) s3 rfl⟩
theorem ev_min2 {i j : Int} (h : EvD B O ta σ G i) (h' : EvD B O tb σ G j) : EvD B O (tCB rMin2 (tCons ta (tCons tb tNil))) σ G (min i j) := fun G1 H1 e s Q q =>
  h G1 H1 e s _ fun v i' G2 H2 p e2 s2 r => h' G2 H2 (Ex.t e e2) s2 _ fun w j' G3 H3 p3 e3 s3 r3 => ⟨i', j', by rw [r, r3], q _ _ G3 H3 (by rw [p, p3]; split <;> omega) (Ex.t e2 e3) s3 rfl⟩
def rAbs : List V → Hp → VK → Prop := fun xs H Q => ∃ i, xs = [.int i] ∧ Q (.int (if i < 0 then -i else i)) H
theorem cr_abs {X : Cx} : CallR X (.builtin "abs") rAbs := call_abs
theorem ev_abs {i : Int} (h : EvD B O te σ G i) : EvD B O (tCB rAbs (tCons te tNil)) σ G (if i < 0 then -i else i) := fun G1 H1 e s Q q =>
  h G1 H1 e s _ fun v c G2 H2 p e2 s2 r => ⟨c, by rw [r], q _ _ G2 H2 (by rw [p]) e2 s2 rfl⟩
def rList (K : PySem.W.Frag) : List V → Hp → VK → Prop := fun xs H Q => ∃ p ys, xs = [.ref p] ∧ (SqL K H p ys ∨ SqT K H p ys) ∧ ∀ l, H l = none → Q (.ref l) (upd H l (.lst ys))
theorem cr_list {X : Cx} : CallR X (.type "list") (rList X.K) := call_list_of
theorem en_list {P : List α → Prop} (h : EvP B O te σ G P) : EvN B O (tCB (rList K) (tCons te tNil)) σ G P := fun G1 H1 e s Q q =>
  h G1 H1 e s _ fun v xs G2 H2 p e2 s2 ⟨a, vs, ev, ha, ra⟩ => ⟨a, vs, by rw [ev], .inl (SqL.of (s2.ex a _ ha)), fun l hl => q l vs xs G2 _ p e2 (s2.mine hl) ra⟩
theorem ev_all {K : PySem.W.Frag} {bs : List Bool} (h : EvD B O te σ G bs) : EvD B O (tCB (rAll K) (tCons te tNil)) σ G (bs.all id) := fun G1 H1 e s Q q =>
  h G1 H1 e s _ fun v xs G2 H2 p e2 s2 ⟨a, vs, ev, ha, ra⟩ => ⟨a, xs, by rw [ev], SqL.of (s2.ex a _ (by rw [ha, all2_bls ra])), q _ _ G2 H2 (by rw [p]) e2 s2 rfl⟩
theorem ev_any {K : PySem.W.Frag} {bs : List Bool} (h : EvD B O te σ G bs) : EvD B O (tCB (rAny K) (tCons te tNil)) σ G (bs.any id) := fun G1 H1 e s Q q =>
  h G1 H1 e s _ fun v xs G2 H2 p e2 s2 ⟨a, vs, ev, ha, ra⟩ => ⟨a, xs, by rw [ev], SqL.of (s2.ex a _ (by rw [ha, all2_bls ra])), q _ _ G2 H2 (by rw [p]) e2 s2 rfl⟩
/-- sorted(xs), xs texts -/
theorem en_sortedS {K : PySem.W.Frag} {xs : List Str} (h : EvD B O te σ G xs) (hl : xs.length < 64) : EvN B O (tCB (rSortedS K) (tCons te tNil)) σ G fun ys => ys.Perm xs ∧ sortedS ys = true := fun G1 H1 e s Q q =>
  h G1 H1 e s _ fun v ys G2 H2 p e2 s2 ⟨a, vs, ev, ha, ra⟩ => ⟨a, ys, by rw [ev], SqL.of (s2.ex a _ (by rw [ha, all2_strs ra])), by rw [p]; exact hl, fun zs l pm so hl => q l _ zs G2 _ ⟨p ▸ pm, so⟩ e2 (s2.mine hl) (all2_of_strs zs)⟩
theorem ev_repr {α : Type} [DecidableEq α] [PyD α] {K : PySem.W.Frag} {a : α} (h : EvD B O te σ G a) (ho : PyD.okr a) (hz : PyD.size a ≤ 1000000) (hd : PyD.deep α ≤ 40 := by decide) : EvD B O (tCB (rRepr K) (tCons te tNil)) σ G (pic a).shown := fun G1 H1 e s Q q =>
  h G1 H1 e s _ fun v b G2 H2 p e2 s2 r => by
    subst p
    obtain ⟨h1, h2, h3⟩ := PyD.sh ho
    exact ⟨v, pic b, rfl, PyD.dp s2.ex r, h2, h3, Nat.le_trans (PyD.dep b) (by omega), PyData.shown_fits_bulk (by decide) (by decide) h1 (Nat.le_trans (PyD.bk b) (by omega)), q _ _ G2 H2 rfl e2 s2 rfl⟩
/-- c in z, c one sign -/
def rInAny (K : PySem.W.Frag) : R2 := fun x y H Q => rIn K false x y H Q ∨ ∃ (c : Nat) (z : Str), x = .str ⟨#[c]⟩ ∧ y = .str z ∧ Q (.bl (decide (c ∈ z.cps.toList))) H
def rNotInAny (K : PySem.W.Frag) : R2 := fun x y H Q => rIn K true x y H Q ∨ ∃ (c : Nat) (z : Str), x = .str ⟨#[c]⟩ ∧ y = .str z ∧ Q (.bl (!decide (c ∈ z.cps.toList))) H
theorem op_inAny {X : Cx} : OpR X (compareOp .In) (rInAny X.K) := OpR.or op_in_seq op_in_sign
theorem op_notInAny {X : Cx} : OpR X (compareOp .NotIn) (rNotInAny X.K) := OpR.or op_notIn_seq op_notIn_sign
theorem inV_strs (x : Str) (xs : List Str) : inV (.str x) (xs.map V.str) = decide (x ∈ xs) := by
  unfold inV
  rw [List.any_map]
  refine Bool.eq_iff_iff.mpr ?_
  rw [List.any_eq_true, decide_eq_true_eq]
  constructor
  · rintro ⟨y, hy, e⟩
    have e2 : (y == x) = true := e
    rw [beq_iff_eq.mp e2] at hy
    exact hy
  · exact fun h => ⟨x, h, (beq_self_eq_true x : (x == x) = true)⟩
theorem flat_strs (xs : List Str) : (xs.map V.str).all flatV = true := by
  rw [List.all_map]
  exact List.all_eq_true.mpr fun _ _ => rfl
theorem o2_inL {x : Str} {xs : List Str} : Op2 (rInAny K) x xs (· = decide (x ∈ xs)) := fun B O G H v w s hv hw Q q => by
  obtain ⟨a, vs, rfl, ha, ra⟩ := hw
  cases hv
  refine .inl ⟨a, vs, rfl, .inl (SqL.of (s.ex a _ ha)), rfl, ?_, q _ _ G H rfl Ex.r s ?_⟩
  · rw [all2_strs ra]; exact flat_strs xs
  · rw [all2_strs ra, inV_strs]; rfl
theorem o2_notInL {x : Str} {xs : List Str} : Op2 (rNotInAny K) x xs (· = !decide (x ∈ xs)) := fun B O G H v w s hv hw Q q => by
  obtain ⟨a, vs, rfl, ha, ra⟩ := hw
  cases hv
  refine .inl ⟨a, vs, rfl, .inl (SqL.of (s.ex a _ ha)), rfl, ?_, q _ _ G H rfl Ex.r s ?_⟩
  · rw [all2_strs ra]; exact flat_strs xs
  · rw [all2_strs ra, inV_strs]; rfl
theorem o2_inS {c : Nat} {z : Str} : Op2 (rInAny K) (⟨#[c]⟩ : Str) z (· = decide (c ∈ z.cps.toList)) := o2_val fun G H v w hv hw Q q => .inr ⟨c, z, hv, hw, q _ _ rfl rfl⟩
theorem o2_notInS {c : Nat} {z : Str} : Op2 (rNotInAny K) (⟨#[c]⟩ : Str) z (· = !decide (c ∈ z.cps.toList)) := o2_val fun G H v w hv hw Q q => .inr ⟨c, z, hv, hw, q _ _ rfl rfl⟩
end
end Dk

set_option Elab.async false
set_option linter.all false
set_option maxRecDepth 100000
set_option maxHeartbeats 1000000
namespace Dk
open PySem PySem.Spec PyProof.Rows L2
open Evl (Ex)
open Py (rp)
open PyD (pic)
section
variable {α β γ δ : Type} [Py α] [Py β] [Py γ] [Py δ] {B : Option Addr} {te ta tb tc tl : TE} {tt tu : TT} {σ : L2.St} {G H : Hp} {O : List (Addr × HO)} {K : PySem.W.Frag} {D : Ends} {ts tz tw : TS} {g : TG}
/-! ### statements -/
theorem s_set {i : Nat} {P : α → Prop} (h : EvP B O te σ G P) (s : Sx B O G H) (k : ∀ v a G2 H2, P a → Ex G G2 → Sx B O G2 H2 → rp G2 v a → D.nx (σ.set i (some v)) H2) : tAsg te (gName i) D σ H := h G H Ex.r s _ fun v a G2 H2 p e s2 r => k v a G2 H2 p e s2 r
theorem q_set {i : Nat} {P : α → Prop} (h : EvP B O te σ G P) (s : Sx B O G H) (k : ∀ v a G2 H2, P a → Ex G G2 → Sx B O G2 H2 → rp G2 v a → tz D (σ.set i (some v)) H2) : tSeq (tAsg te (gName i)) tz D σ H := s_set (D := { D with nx := tz D }) h s k
theorem q_setN {i : Nat} {P : List α → Prop} (h : EvN B O te σ G P) (s : Sx B O G H) (k : ∀ p vs xs G2 H2, P xs → Ex G G2 → Sx B ((p, .lst vs) :: O) G2 H2 → All2 G2 vs xs → tz D (σ.set i (some (.ref p))) H2) : tSeq (tAsg te (gName i)) tz D σ H := h G H Ex.r s _ fun p vs xs G2 H2 pz e s2 r => k p vs xs G2 H2 pz e s2 r
theorem q_par {i j : Nat} {P : α → Prop} {R : β → Prop} (h : EvP B O ta σ G P) (h' : EvP B O tb σ G R) (s : Sx B O G H) (k : ∀ v w a b G2 H2, P a → R b → Ex G G2 → Sx B O G2 H2 → rp G2 v a → rp G2 w b → tz D ((σ.set i (some v)).set j (some w)) H2) :
    tSeq (tPar i j (tCons ta (tCons tb tNil))) tz D σ H := h G H Ex.r s _ fun v a G2 H2 p e s2 r => h' G2 H2 e s2 _ fun w b G3 H3 p3 e3 s3 r3 => ⟨v, w, rfl, k v w a b G3 H3 p p3 (Ex.t e e3) s3 (Py.up e3 r) r3⟩
theorem g_name {i : Nat} {v : V} {Q : L2.St → Hp → Prop} (k : Q (σ.set i (some v)) H) : gName i v σ H Q := k
theorem g_pair {i j : Nat} {v : V} {a : α} {b : β} {Q : L2.St → Hp → Prop} (r : rp G v (a, b)) (s : Sx B O G H) (k : ∀ x y, rp G x a → rp G y b → Q ((σ.set i (some x)).set j (some y)) H) : gTup K 2 (gCons (gName i) (gCons (gName j) gNil)) v σ H Q := by
  obtain ⟨p, x, y, rfl, hp, rx, ry⟩ := r
  exact ⟨p, [x, y], rfl, SqT.of (s.ex p _ hp), rfl, x, [y], rfl, y, [], rfl, rfl, k x y rx ry⟩
theorem q_unp {i j : Nat} {P : α × β → Prop} (h : EvP B O te σ G P) (s : Sx B O G H) (k : ∀ x y a b G2 H2, P (a, b) → Ex G G2 → Sx B O G2 H2 → rp G2 x a → rp G2 y b → tz D ((σ.set i (some x)).set j (some y)) H2) :
    tSeq (tAsg te (gTup K 2 (gCons (gName i) (gCons (gName j) gNil)))) tz D σ H := h G H Ex.r s _ fun v ⟨a, b⟩ G2 H2 p e s2 r => g_pair r s2 fun x y rx ry => k x y a b G2 H2 p e s2 rx ry
theorem s_if {P : Bool → Prop} (h : EvT B O tt σ G P) (s : Sx B O G H) (h1 : ∀ G2 H2, P true → Ex G G2 → Sx B O G2 H2 → ts D σ H2) (h2 : ∀ G2 H2, P false → Ex G G2 → Sx B O G2 H2 → tw D σ H2) : tIfS tt ts tw D σ H := h G H Ex.r s _ fun b G2 H2 p e s2 => by
  cases b with
  | true => exact h1 G2 H2 p e s2
  | false => exact h2 G2 H2 p e s2
theorem q_if {P : Bool → Prop} (h : EvT B O tt σ G P) (s : Sx B O G H) (h1 : ∀ G2 H2, P true → Ex G G2 → Sx B O G2 H2 → ts { D with nx := tz D } σ H2) (h2 : ∀ G2 H2, P false → Ex G G2 → Sx B O G2 H2 → tw { D with nx := tz D } σ H2) : tSeq (tIfS tt ts tw) tz D σ H := s_if (D := { D with nx := tz D }) h s h1 h2
theorem q_when {P : Bool → Prop} (h : EvT B O tt σ G P) (s : Sx B O G H) (h1 : ∀ G2 H2, P true → Ex G G2 → Sx B O G2 H2 → ts { D with nx := tz D } σ H2) (h2 : ∀ G2 H2, P false → Ex G G2 → Sx B O G2 H2 → tz D σ H2) : tSeq (tIfS tt ts tNext) tz D σ H := s_if (D := { D with nx := tz D }) h s h1 h2
theorem s_ret {P : α → Prop} (h : EvP B O te σ G P) (s : Sx B O G H) (k : ∀ v a G2 H2, P a → Ex G G2 → Sx B O G2 H2 → rp G2 v a → D.rt v H2) : tRet te D σ H := h G H Ex.r s _ k
theorem s_retN {P : List α → Prop} (h : EvN B O te σ G P) (s : Sx B O G H) (k : ∀ p vs xs G2 H2, P xs → Ex G G2 → Sx B ((p, .lst vs) :: O) G2 H2 → All2 G2 vs xs → D.rt (.ref p) H2) : tRet te D σ H := h G H Ex.r s _ k
theorem s_drop {P : α → Prop} (h : EvP B O te σ G P) (s : Sx B O G H) (k : ∀ v a G2 H2, P a → Ex G G2 → Sx B O G2 H2 → rp G2 v a → D.nx σ H2) : tDrop te D σ H := h G H Ex.r s _ k
/-- x += e, ints -/
theorem q_augI {i : Nat} {f : Int → Int → Int} {a : Int} {P : Int → Prop} (hx : σ[i]? = some (some (.int a))) (h : EvP B O te σ G P) (s : Sx B O G H) (k : ∀ b G2 H2, P b → Ex G G2 → Sx B O G2 H2 → tz D (σ.set i (some (.int (f a b)))) H2) : tSeq (tAug i te (ipI f)) tz D σ H :=
  ⟨_, hx, h G H Ex.r s _ fun v b G2 H2 p e s2 r => ⟨a, b, rfl, r, k b G2 H2 p e s2⟩⟩
theorem s_augI {i : Nat} {f : Int → Int → Int} {a : Int} {P : Int → Prop} (hx : σ[i]? = some (some (.int a))) (h : EvP B O te σ G P) (s : Sx B O G H) (k : ∀ b G2 H2, P b → Ex G G2 → Sx B O G2 H2 → D.nx (σ.set i (some (.int (f a b)))) H2) : tAug i te (ipI f) D σ H :=
  ⟨_, hx, h G H Ex.r s _ fun v b G2 H2 p e s2 r => ⟨a, b, rfl, r, k b G2 H2 p e s2⟩⟩
/-- l.append(e), l one's own and at the head -/
theorem s_app {i : Nat} {l : Addr} {vs : List V} {P : α → Prop} (hv : σ[i]? = some (some (.ref l))) (h : EvP B ((l, .lst vs) :: O) te σ G P) (s : Sx B ((l, .lst vs) :: O) G H) (hz : vs.length ≤ 1000000)
    (k : ∀ v a G2 H2, P a → Ex G G2 → Sx B ((l, .lst (vs ++ [v])) :: O) G2 H2 → rp G2 v a → D.nx σ H2) : tDrop (tBM K "list" rAppend (tVar i) (tCons te tNil)) D σ H :=
  ⟨.ref l, hv, .inl ⟨rfl, vs, SqL.of s.head.1⟩, h G H Ex.r s _ fun v a G2 H2 p e s2 r => ⟨l, vs, v, rfl, rfl, s2.head.1, line_lt hz, k v a G2 _ p e s2.put r⟩⟩
def rInsert : V → List V → Hp → VK → Prop := fun x vs H Q => ∃ (l : Addr) (xs : List V) (i : Int) (y : V), x = .ref l ∧ vs = [.int i, y] ∧ H l = some (.lst xs) ∧ xs.length < sizeLine ∧ 0 ≤ i ∧ i < 2 ^ 63 ∧
    Q .non (upd H l (.lst (xs.take i.toNat ++ [y] ++ xs.drop i.toNat)))
theorem m_insert {X : Cx} : MtR X "list.insert" rInsert := mt_insert
/-- l.insert(i, e) -/
theorem s_insert {i : Nat} {l : Addr} {vs : List V} {P : Int → Prop} {R : α → Prop} (hv : σ[i]? = some (some (.ref l))) (h : EvP B ((l, .lst vs) :: O) ta σ G P) (h' : EvP B ((l, .lst vs) :: O) te σ G R) (hp : ∀ j, P j → 0 ≤ j ∧ j < 2 ^ 63) (s : Sx B ((l, .lst vs) :: O) G H) (hz : vs.length ≤ 1000000)
    (k : ∀ j v a G2 H2, P j → R a → Ex G G2 → Sx B ((l, .lst (vs.take j.toNat ++ [v] ++ vs.drop j.toNat)) :: O) G2 H2 → rp G2 v a → D.nx σ H2) : tDrop (tBM K "list" rInsert (tVar i) (tCons ta (tCons te tNil))) D σ H :=
  ⟨.ref l, hv, .inl ⟨rfl, vs, SqL.of s.head.1⟩, h G H Ex.r s _ fun u j G2 H2 p e s2 r => h' G2 H2 e s2 _ fun v a G3 H3 p3 e3 s3 r3 =>
    ⟨l, vs, j, v, rfl, by rw [r], s3.head.1, line_lt hz, (hp j p).1, (hp j p).2, k j v a G3 _ p p3 (Ex.t e e3) s3.put r3⟩⟩

/-- of one's own list -/
theorem ev_lenOwn {i : Nat} {l : Addr} {vs : List V} (hm : (l, HO.lst vs) ∈ O) (hv : σ[i]? = some (some (.ref l))) : EvD B O (tCB (rLen K) (tCons (tVar i) tNil)) σ G (vs.length : Int) := fun G1 H1 e s Q q =>
  ⟨_, hv, .ref l, vs.length, rfl, .inl ⟨vs, SqL.of (s.own _ hm).1, rfl⟩, q _ _ G1 H1 rfl Ex.r s rfl⟩
theorem ev_ixOwn {i : Nat} {l : Addr} {vs : List V} {xs : List α} {j : Int} {a : α} (hm : (l, HO.lst vs) ∈ O) (hv : σ[i]? = some (some (.ref l))) (r : All2 G vs xs) (h : EvD B O te σ G j) (h0 : 0 ≤ j) (hj : xs[j.toNat]? = some a) : EvD B O (tOp (rIx K) (tVar i) te) σ G a := fun G1 H1 e s Q q =>
  ⟨_, hv, h G1 H1 e s _ fun w j' G2 H2 p e2 s2 rw => by
    have p' : j' = j := p
    subst p'
    obtain ⟨u, hu, ru⟩ := all2_get r hj
    refine .inl ⟨l, vs, j', u, rfl, rw, SqL.of (s2.own _ hm).1, ?_, q u a G2 H2 rfl e2 s2 (Py.up (Ex.t e e2) ru)⟩
    have e5 : j' = (j'.toNat : Int) := (Int.toNat_of_nonneg h0).symm
    rw [e5]
    exact atI_nat hu⟩
/-- return one's own list -/
theorem s_retOwn {i : Nat} {l : Addr} (hv : σ[i]? = some (some (.ref l))) (k : D.rt (.ref l) H) : tRet (tVar i) D σ H := ⟨_, hv, k⟩

/-! ### loops. U: what holds of the turn's number, the slots, what stands still, what is owned -/
abbrev Word := Nat → L2.St → Hp → List (Addr × HO) → Prop
def Jw (B : Option Addr) (G : Hp) (U : Word) (i : Nat) : L2.St → Hp → Prop := fun σ H => ∃ G2 O2, Ex G G2 ∧ Sx B O2 G2 H ∧ U i σ G2 O2
theorem s_forL {P : List α → Prop} (h : EvP B O tl σ G P) (s : Sx B O G H) (U : List α → Word) (h0 : ∀ xs G2, P xs → Ex G G2 → U xs 0 σ G2 O)
    (hs : ∀ xs G1 i x v σ2 G2 H2 O2, P xs → Ex G G1 → xs[i]? = some x → Ex G1 G2 → Sx B O2 G2 H2 → rp G2 v x → U xs i σ2 G2 O2 → g v σ2 H2 fun σ3 H3 => ts { D with nx := Jw B G1 (U xs) (i + 1), ct := Jw B G1 (U xs) (i + 1), bk := D.nx } σ3 H3)
    (hd : ∀ xs σ2 G2 H2 O2, P xs → Ex G G2 → Sx B O2 G2 H2 → U xs xs.length σ2 G2 O2 → D.nx σ2 H2) : tFor (iList K tl) g ts D σ H :=
  h G H Ex.r s _ fun v xs G1 H1 p e s1 ⟨a, vs, ev, ha, ra⟩ => ⟨a, ev, ⟨vs, SqL.of (s1.ex a _ ha)⟩, for_list (xs := vs) (Jw B G1 (U xs)) ⟨G1, O, Ex.r, s1, h0 xs G1 p e⟩
    (fun i σ2 H2 _ ⟨G2, O2, e2, s2, _⟩ => SqL.of (s2.ex a _ (e2 a _ ha)))
    (fun i y σ2 H2 hi ⟨G2, O2, e2, s2, u⟩ => by
      obtain ⟨x, hx, rx⟩ := all2_getV ra hi
      exact hs xs G1 i x y σ2 G2 H2 O2 p e hx e2 s2 (Py.up e2 rx) u)
    (fun σ2 H2 ⟨G2, O2, e2, s2, u⟩ => hd xs σ2 G2 H2 O2 p (Ex.t e e2) s2 (by rw [all2_len ra] at u; exact u))⟩
theorem q_forL {P : List α → Prop} (h : EvP B O tl σ G P) (s : Sx B O G H) (U : List α → Word) (h0 : ∀ xs G2, P xs → Ex G G2 → U xs 0 σ G2 O)
    (hs : ∀ xs G1 i x v σ2 G2 H2 O2, P xs → Ex G G1 → xs[i]? = some x → Ex G1 G2 → Sx B O2 G2 H2 → rp G2 v x → U xs i σ2 G2 O2 → g v σ2 H2 fun σ3 H3 => ts { D with nx := Jw B G1 (U xs) (i + 1), ct := Jw B G1 (U xs) (i + 1), bk := tz D } σ3 H3)
    (hd : ∀ xs σ2 G2 H2 O2, P xs → Ex G G2 → Sx B O2 G2 H2 → U xs xs.length σ2 G2 O2 → tz D σ2 H2) : tSeq (tFor (iList K tl) g ts) tz D σ H := s_forL (D := { D with nx := tz D }) h s U h0 hs hd
theorem s_forR {P : Int → Prop} (h : EvP B O te σ G P) (hb : ∀ n, P n → -1000000 ≤ n ∧ n ≤ 1000000) (s : Sx B O G H) (U : Int → Word) (h0 : ∀ n G2, P n → Ex G G2 → U n 0 σ G2 O)
    (hs : ∀ n G1 (i : Nat) σ2 G2 H2 O2, P n → Ex G G1 → (i : Int) < n → Ex G1 G2 → Sx B O2 G2 H2 → U n i σ2 G2 O2 → g (.int (i : Int)) σ2 H2 fun σ3 H3 => ts { D with nx := Jw B G1 (U n) (i + 1), ct := Jw B G1 (U n) (i + 1), bk := D.nx } σ3 H3)
    (hd : ∀ n σ2 G2 H2 O2, P n → Ex G G2 → Sx B O2 G2 H2 → U n n.toNat σ2 G2 O2 → D.nx σ2 H2) : tFor (iRng1 (tCons te tNil)) g ts D σ H :=
  h G H Ex.r s _ fun v n G1 H1 p e s1 r => by
    have hb2 := hb n p
    refine ⟨n, by rw [r], by omega, by omega, for_range (lo := 0) (n := n.toNat) (Jw B G1 (U n)) ⟨G1, O, Ex.r, s1, h0 n G1 p e⟩ (fun i σ2 H2 hi ⟨G2, O2, e2, s2, u⟩ => ?_) (fun σ2 H2 ⟨G2, O2, e2, s2, u⟩ => hd n σ2 G2 H2 O2 p (Ex.t e e2) s2 u)⟩
    have q := hs n G1 i σ2 G2 H2 O2 p e (by omega) e2 s2 u
    rw [Int.zero_add]
    exact q
theorem q_forR {P : Int → Prop} (h : EvP B O te σ G P) (hb : ∀ n, P n → -1000000 ≤ n ∧ n ≤ 1000000) (s : Sx B O G H) (U : Int → Word) (h0 : ∀ n G2, P n → Ex G G2 → U n 0 σ G2 O)
    (hs : ∀ n G1 (i : Nat) σ2 G2 H2 O2, P n → Ex G G1 → (i : Int) < n → Ex G1 G2 → Sx B O2 G2 H2 → U n i σ2 G2 O2 → g (.int (i : Int)) σ2 H2 fun σ3 H3 => ts { D with nx := Jw B G1 (U n) (i + 1), ct := Jw B G1 (U n) (i + 1), bk := tz D } σ3 H3)
    (hd : ∀ n σ2 G2 H2 O2, P n → Ex G G2 → Sx B O2 G2 H2 → U n n.toNat σ2 G2 O2 → tz D σ2 H2) : tSeq (tFor (iRng1 (tCons te tNil)) g ts) tz D σ H := s_forR (D := { D with nx := tz D }) h hb s U h0 hs hd

/-! ### comprehensions -/
inductive Rel2 {α β : Type} (R : α → β → Prop) : List α → List β → Prop
  | nil : Rel2 R [] []
  | cons {x : α} {y : β} {xs : List α} {ys : List β} : R x y → Rel2 R xs ys → Rel2 R (x :: xs) (y :: ys)
theorem rel2_snoc {R : α → β → Prop} {xs : List α} {ys : List β} {x : α} {y : β} (h : Rel2 R xs ys) (r : R x y) : Rel2 R (xs ++ [x]) (ys ++ [y]) := by
  induction h with
  | nil => exact .cons r .nil
  | cons a b ih => exact .cons a ih
theorem rel2_len {R : α → β → Prop} {xs : List α} {ys : List β} (h : Rel2 R xs ys) : ys.length = xs.length := by
  induction h with
  | nil => rfl
  | cons a b ih => simp [ih]
theorem rel2_map {f : α → β} {xs : List α} {ys : List β} (h : Rel2 (fun x y => y = f x) xs ys) : ys = xs.map f := by
  induction h with
  | nil => rfl
  | cons a b ih => rw [a, ih]; rfl
theorem rel2_mem {R : α → β → Prop} {xs : List α} {ys : List β} (h : Rel2 R xs ys) {y : β} (hy : y ∈ ys) : ∃ x, x ∈ xs ∧ R x y := by
  induction h with
  | nil => cases hy
  | cons a b ih =>
    rcases List.mem_cons.mp hy with rfl | hy
    · exact ⟨_, List.mem_cons_self .., a⟩
    · obtain ⟨x, hx, r⟩ := ih hy
      exact ⟨x, List.mem_cons_of_mem _ hx, r⟩
theorem filter_take_succ {c : α → Bool} {xs : List α} {i : Nat} {x : α} (h : xs[i]? = some x) : (xs.take (i + 1)).filter c = (xs.take i).filter c ++ (if c x = true then [x] else []) := by
  rw [take_snoc h, List.filter_append, List.filter_cons]
  rfl
def Jc (B : Option Addr) (O : List (Addr × HO)) (G : Hp) (Dl : Addr) (c : α → Bool) (R : α → β → Prop) (xs : List α) (i : Nat) (H : Hp) : Prop :=
  ∃ G2 acc ys, Ex G G2 ∧ Sx B ((Dl, .lst acc) :: O) G2 H ∧ All2 G2 acc ys ∧ Rel2 R ((xs.take i).filter c) ys
theorem jc_len {Dl : Addr} {c : α → Bool} {R : α → β → Prop} {xs : List α} {i : Nat} {acc : List V} {ys : List β} (h1 : All2 G acc ys) (h2 : Rel2 R ((xs.take i).filter c) ys) : acc.length ≤ xs.length := by
  rw [all2_len h1, rel2_len h2]
  refine Nat.le_trans (List.length_filter_le _ _) ?_
  rw [List.length_take]
  omega
/-- one turn, the target stored: σ2 -/
theorem jc_turn {Dl : Addr} {c : α → Bool} {R : α → β → Prop} {xs : List α} {i : Nat} {x : α} {σ2 : L2.St} {G1 G2 : Hp} {acc : List V} {ys : List β} (hi : xs[i]? = some x) (hz : xs.length ≤ 1000000) (e2 : Ex G1 G2) (s2 : Sx B ((Dl, .lst acc) :: O) G2 H) (ra : All2 G2 acc ys) (rl : Rel2 R ((xs.take i).filter c) ys)
    (ht : EtD B ((Dl, .lst acc) :: O) tt σ2 G2 (c x)) (he : c x = true → EvP B ((Dl, .lst acc) :: O) te σ2 G2 (R x)) :
    tt σ2 H fun b H3 => if b = true then te σ2 H3 fun y H4 => ∃ acc, H4 Dl = some (.lst acc) ∧ acc.length < sizeLine ∧ Jc B O G1 Dl c R xs (i + 1) (upd H4 Dl (.lst (acc ++ [y]))) else Jc B O G1 Dl c R xs (i + 1) H3 :=
  ht G2 H Ex.r s2 _ fun b G3 H3 p e3 s3 => by
    have p' : b = c x := p
    subst p'
    by_cases hc : c x = true
    · rw [if_pos hc]
      refine he hc G3 H3 e3 s3 _ fun v y G4 H4 ry e4 s4 rv => ⟨acc, s4.head.1, line_lt (Nat.le_trans (jc_len (Dl := Dl) ra rl) hz), G4, acc ++ [v], ys ++ [y], Ex.t e2 (Ex.t e3 e4), s4.put, all2_app (all2_up (Ex.t e3 e4) ra) (all2_one rv), ?_⟩
      rw [filter_take_succ hi, if_pos hc]
      exact rel2_snoc rl ry
    · rw [if_neg hc]
      refine ⟨G3, acc, ys, Ex.t e2 e3, s3, all2_up e3 ra, ?_⟩
      rw [filter_take_succ hi, if_neg hc, List.append_nil]
      exact rl
theorem en_lc {ws : List Nat} {P : List α → Prop} (c : α → Bool) (R : α → β → Prop) (h : EvP B O tl σ G P) (hz : ∀ xs, P xs → xs.length ≤ 1000000)
    (ht : ∀ xs x v G2 H2 O2 (Q : L2.St → Hp → Prop), P xs → x ∈ xs → Ex G G2 → Sx B O2 G2 H2 → rp G2 v x → (∀ σ2, wipe σ2 ws = wipe σ ws → EtD B O2 tt σ2 G2 (c x) → (c x = true → EvP B O2 te σ2 G2 (R x)) → Q σ2 H2) → g v (wipe σ ws) H2 Q) :
    EvN B O (tLc (iList K tl) g tt te ws) σ G fun ys => ∃ xs, P xs ∧ Rel2 R (xs.filter c) ys := fun G1 H1 e s Q q =>
  h G1 H1 e s _ fun v xs G2 H2 p e2 s2 ⟨a, vs, ev, ha, ra⟩ => ⟨a, ev, ⟨vs, SqL.of (s2.ex a _ ha)⟩, fun Dl hD => lc_list (xs := vs) (Jc B O G2 Dl c R xs) ⟨G2, [], [], Ex.r, s2.mine hD, .nil, .nil⟩
    (fun i H3 _ ⟨G3, _, _, e3, s3, _, _⟩ => SqL.of (s3.ex a _ (e3 a _ ha)))
    (fun i y H3 hi ⟨G3, acc, ys, e3, s3, r3, l3⟩ => by
      obtain ⟨x, hx, rx⟩ := all2_getV ra hi
      exact ht xs x y G3 H3 _ _ p (List.mem_of_getElem? hx) (Ex.t e (Ex.t e2 e3)) s3 (Py.up e3 rx) fun σ2 hw h1 h2 => ⟨hw, jc_turn hx (hz xs p) e3 s3 r3 l3 h1 h2⟩)
    (fun H3 ⟨G3, acc, ys, e3, s3, r3, l3⟩ => q Dl acc ys G3 H3 ⟨xs, p, by rw [all2_len ra, List.take_length] at l3; exact l3⟩ (Ex.t e2 e3) s3 r3)⟩
/-- .. over range(n) -/
theorem en_lcR {ws : List Nat} {P : Int → Prop} (c : Int → Bool) (R : Int → β → Prop) (h : EvP B O tl σ G P) (hz : ∀ n, P n → n ≤ 1000000 ∧ -1000000 ≤ n)
    (ht : ∀ n (i : Nat) G2 H2 O2 (Q : L2.St → Hp → Prop), P n → (i : Int) < n → Ex G G2 → Sx B O2 G2 H2 → (∀ σ2, wipe σ2 ws = wipe σ ws → EtD B O2 tt σ2 G2 (c i) → (c i = true → EvP B O2 te σ2 G2 (R i)) → Q σ2 H2) → g (.int (i : Int)) (wipe σ ws) H2 Q) :
    EvN B O (tLc (iRng1 (tCons tl tNil)) g tt te ws) σ G fun ys => ∃ n, P n ∧ Rel2 R (((List.range n.toNat).map fun i : Nat => (i : Int)).filter c) ys := fun G1 H1 e s Q q =>
  h G1 H1 e s _ fun v n G2 H2 p e2 s2 r => by
    have hb := hz n p
    have hlen : ((List.range n.toNat).map fun i : Nat => (i : Int)).length = n.toNat := by rw [List.length_map, List.length_range]
    refine ⟨n, by rw [r], by omega, by omega, fun Dl hD => lc_range (lo := 0) (n := n.toNat) (Jc B O G2 Dl c R ((List.range n.toNat).map fun i : Nat => (i : Int))) ⟨G2, [], [], Ex.r, s2.mine hD, .nil, .nil⟩
      (fun i H3 hi ⟨G3, acc, ys, e3, s3, r3, l3⟩ => ?_) (fun H3 ⟨G3, acc, ys, e3, s3, r3, l3⟩ => q Dl acc ys G3 H3 ⟨n, p, by rw [List.take_of_length_le (by rw [hlen]; exact Nat.le_refl _)] at l3; exact l3⟩ (Ex.t e2 e3) s3 r3)⟩
    have hx : ((List.range n.toNat).map fun i : Nat => (i : Int))[i]? = some (i : Int) := by rw [List.getElem?_map, List.getElem?_range hi]; rfl
    rw [Int.zero_add]
    exact ht n i G3 H3 _ _ p (by omega) (Ex.t e (Ex.t e2 e3)) s3 fun σ2 hw h1 h2 => ⟨hw, jc_turn hx (by omega) e3 s3 r3 l3 h1 h2⟩
theorem et_yes : EtD B O tYes σ G true := fun G1 H1 e s Q q => q true G1 H1 rfl Ex.r s
end
end Dk

set_option Elab.async false
set_option linter.all false
set_option maxRecDepth 100000
set_option maxHeartbeats 1000000
namespace Dk
open PySem PySem.Spec PyProof.Rows L2
open Evl (Ex)
open Py (rp)
open PyD (pic)
/-! ### what is read where nothing changes -/
def At (te : TE) (σ : L2.St) (H : Hp) (v : V) : Prop := ∀ Q : VK, Q v H → te σ H Q
def Rat (r : R2) (x y : V) (H : Hp) (z : V) : Prop := ∀ Q : VK, Q z H → r x y H Q
section
variable {te ta tb : TE} {tt : TT} {σ : L2.St} {H : Hp} {K : PySem.W.Frag} {x y z v : V} {r : R2} {D : Ends} {ts tw tz : TS}
theorem at_var {i : Nat} (h : σ[i]? = some (some v)) : At (tVar i) σ H v := fun Q q => ⟨v, h, q⟩
theorem at_c : At (tC v) σ H v := fun Q q => q
theorem at_op (ha : At ta σ H x) (hb : At tb σ H y) (h : Rat r x y H z) : At (tOp r ta tb) σ H z := fun Q q => ha _ (hb _ (h Q q))
theorem ra_I0 {f : Int → Int → V} {i j : Int} : Rat (rI0 f) (.int i) (.int j) H (f i j) := fun Q q => ⟨i, j, rfl, rfl, q⟩
theorem ra_I {C : Int → Int → Prop} {f : Int → Int → V} {i j : Int} (c : C i j) : Rat (rI C f) (.int i) (.int j) H (f i j) := fun Q q => ⟨i, j, rfl, rfl, c, q⟩
theorem ra_mod {i j : Int} (c : 0 < j) : Rat (rI (fun _ j => 0 < j) fun i j => .int (i % j)) (.int i) (.int j) H (.int (i % j)) := fun Q q => ⟨i, j, rfl, rfl, c, q⟩
theorem ra_add {i j : Int} : Rat rPlus (.int i) (.int j) H (.int (i + j)) := fun Q q => .inl ⟨i, j, rfl, rfl, q⟩
theorem ra_mul {i j : Int} (c : CMul i j) : Rat rTimes (.int i) (.int j) H (.int (i * j)) := fun Q q => .inl ⟨i, j, rfl, rfl, c, q⟩
theorem ra_eqI {i j : Int} : Rat (rEqU K) (.int i) (.int j) H (.bl (decide (i = j))) := fun Q q => .inr ⟨rfl, by rw [show decide ((V.int i : V) = .int j) = decide (i = j) from dec_congr ⟨fun h => V.int.inj h, fun h => h ▸ rfl⟩]; exact q⟩
theorem ra_ix {l : Addr} {vs : List V} {j : Nat} (hl : H l = some (.lst vs)) (hv : vs[j]? = some v) : Rat (rIx K) (.ref l) (.int (j : Int)) H v := fun Q q => .inl ⟨l, vs, j, v, rfl, rfl, SqL.of hl, atI_nat hv, q⟩
theorem at_len {l : Addr} {vs : List V} (ha : At ta σ H (.ref l)) (hl : H l = some (.lst vs)) : At (tCB (rLen K) (tCons ta tNil)) σ H (.int (vs.length : Int)) := fun Q q => ha _ ⟨.ref l, vs.length, rfl, .inl ⟨vs, SqL.of hl, rfl⟩, q⟩
theorem at_set {i : Nat} (h : At te σ H v) (k : tz D (σ.set i (some v)) H) : tSeq (tAsg te (gName i)) tz D σ H := h _ k
theorem at_set1 {i : Nat} (h : At te σ H v) (k : D.nx (σ.set i (some v)) H) : tAsg te (gName i) D σ H := h _ k
theorem at_ret (h : At te σ H v) (k : D.rt v H) : tRet te D σ H := h _ k
theorem at_if {b : Bool} (h : At te σ H (.bl b)) (h1 : b = true → ts D σ H) (h2 : b = false → tw D σ H) : tIfS (tTest te) ts tw D σ H := h _ ⟨b, rfl, by
  cases b with
  | true => exact h1 rfl
  | false => exact h2 rfl⟩
theorem at_qif {b : Bool} (h : At te σ H (.bl b)) (h1 : b = true → ts { D with nx := tz D } σ H) (h2 : b = false → tw { D with nx := tz D } σ H) : tSeq (tIfS (tTest te) ts tw) tz D σ H := at_if (D := { D with nx := tz D }) h h1 h2
/-- l[j] = e -/
theorem at_put {l : Addr} {vs : List V} {j : Nat} (h : At te σ H v) (ho : At ta σ H (.ref l)) (hi : At tb σ H (.int (j : Int))) (hl : H l = some (.lst vs)) (hj : j < vs.length) (k : D.nx σ (upd H l (.lst (vs.set j v)))) : tAsg te (gSub ta tb rSetL) D σ H :=
  h _ (ho _ (hi _ ⟨l, vs, j, j, rfl, rfl, hl, Evl.ixN_nat hj, k⟩))
/-- l[j] += e, ints -/
theorem at_augS {l : Addr} {vs : List V} {j : Nat} {a b : Int} {f : Int → Int → Int} (ho : At ta σ H (.ref l)) (hi : At tb σ H (.int (j : Int))) (hl : H l = some (.lst vs)) (hv : vs[j]? = some (.int a)) (h : At te σ H (.int b)) (k : D.nx σ (upd H l (.lst (vs.set j (.int (f a b)))))) :
    tAugS ta tb te (rIxL K) (ipI f) rSetL D σ H :=
  ho _ (hi _ ⟨l, vs, j, .int a, rfl, rfl, SqL.of hl, atI_nat hv, h _ ⟨a, b, rfl, rfl, l, vs, j, j, rfl, rfl, hl, Evl.ixN_nat (List.getElem?_eq_some_iff.mp hv).1, k⟩⟩)
end
section
variable {te ta tb : TE} {σ : L2.St} {H : Hp} {K : PySem.W.Frag} {v : V} {D : Ends} {tz : TS}
theorem at_qput {l : Addr} {vs : List V} {j : Nat} (h : At te σ H v) (ho : At ta σ H (.ref l)) (hi : At tb σ H (.int (j : Int))) (hl : H l = some (.lst vs)) (hj : j < vs.length) (k : tz D σ (upd H l (.lst (vs.set j v)))) : tSeq (tAsg te (gSub ta tb rSetL)) tz D σ H := at_put (D := { D with nx := tz D }) h ho hi hl hj k
theorem at_qaugS {l : Addr} {vs : List V} {j : Nat} {a b : Int} {f : Int → Int → Int} (ho : At ta σ H (.ref l)) (hi : At tb σ H (.int (j : Int))) (hl : H l = some (.lst vs)) (hv : vs[j]? = some (.int a)) (h : At te σ H (.int b)) (k : tz D σ (upd H l (.lst (vs.set j (.int (f a b)))))) :
    tSeq (tAugS ta tb te (rIxL K) (ipI f) rSetL) tz D σ H := at_augS (D := { D with nx := tz D }) ho hi hl hv h k
end
theorem with_tail {ts tz : TS} {D : Ends} {σ : L2.St} {H : Hp} (M : L2.St → Hp → Prop) (main : (∀ σ' H', M σ' H' → tz D σ' H') → tSeq ts tz D σ H) (tail : ∀ σ' H', M σ' H' → tz D σ' H') : tSeq ts tz D σ H := main tail
theorem Sx.bagPut {b : Addr} {O : List (Addr × HO)} {G H : Hp} {z0 z1 z2 : Int} {c : Addr} {cells : List Int} (s : Sx (some b) O G H) (hz : 0 ≤ z2) (hc : G c = some (.lst (cells.map V.int))) : Sx (some b) O G (upd H b (.lst [.int z0, .int z1, .int z2, .ref c])) := by
  obtain ⟨⟨gb, _⟩, nb⟩ := s.bag b rfl
  exact ⟨fun a u e => by rw [upd_ne (ne_of_none e gb)]; exact s.ex a u e, fun q hq => by
    rw [upd_ne (fun e => nb (List.mem_map.mpr ⟨q, hq, e⟩))]; exact s.own q hq, s.nd, fun b' e => by
    cases e
    exact ⟨⟨gb, z0, z1, z2, c, cells, upd_same, hz, hc⟩, nb⟩⟩

/-! ### texts -/
def rSplit : V → List V → Hp → VK → Prop := fun x xs H Q => ∃ a b, x = .str a ∧ xs = [.str b] ∧ (b.length == 0) = false ∧ a.length + 2 ≤ sizeLine ∧ rNewStrs (PySem.Txt.split a b) H Q
section
variable {B : Option Addr} {O : List (Addr × HO)} {te tb : TE} {σ : L2.St} {G : Hp} {K : PySem.W.Frag}
theorem en_split {a b : Str} (h : EvD B O te σ G a) (h' : EvD B O tb σ G b) (hb : (b.length == 0) = false) (ha : a.length ≤ 1000000) : EvM B O (tM1 (fun x xs H Q => ∃ a b, x = .str a ∧ xs = [.str b] ∧ (b.length == 0) = false ∧ a.length + 2 ≤ sizeLine ∧ rNewStrs (PySem.Txt.split a b) H Q) te tb) σ G (PySem.Txt.split a b) := fun G1 H1 e s Q q =>
  h G1 H1 e s _ fun v x G2 H2 p e2 s2 r => ⟨⟨x, r⟩, h' G2 H2 (Ex.t e e2) s2 _ fun w y G3 H3 p3 e3 s3 r3 => by
    have p' : x = a := p
    have p3' : y = b := p3
    subst p'; subst p3'
    exact ⟨x, y, r, by rw [r3], hb, Nat.le_trans (Nat.add_le_add_right ha 2) (by decide), fun l hl => q l _ _ G3 _ rfl (Ex.t e2 e3) (s3.mine hl) (all2_of_strs _)⟩⟩
theorem ev_join {a : Str} {P : List Str → Prop} (h : EvD B O te σ G a) (h' : EvP B O tb σ G P) (hz : ∀ ys, P ys → (ys.map (·.length)).sum + ys.length * a.length ≤ 1000000) : EvP B O (tM1 (fun x xs H Q => ∃ a p, ∃ ys : List Str, x = .str a ∧ xs = [.ref p] ∧ (SqL K H p (ys.map V.str) ∨ SqT K H p (ys.map V.str)) ∧
    (ys.map (·.length)).sum + ys.length * a.length ≤ 16777216 ∧ Q (.str (PySem.Txt.join a ys)) H) te tb) σ G fun z : Str => ∃ ys, P ys ∧ z = PySem.Txt.join a ys := fun G1 H1 e s Q q =>
  h G1 H1 e s _ fun v x G2 H2 p e2 s2 r => ⟨⟨x, r⟩, h' G2 H2 (Ex.t e e2) s2 _ fun w ys G3 H3 p3 e3 s3 ⟨l, vs, ew, hl, ra⟩ => by
    have p' : x = a := p
    subst p'
    exact ⟨x, l, ys, r, by rw [ew], .inl (SqL.of (s3.ex l _ (by rw [hl, all2_strs ra]))), Nat.le_trans (hz ys p3) (by decide), q _ _ G3 H3 ⟨ys, p3, rfl⟩ (Ex.t e2 e3) s3 rfl⟩⟩
end
/-- a name -/
def Nm (x : Str) : Prop := 1 ≤ x.length ∧ x.length ≤ 8 ∧ ∀ c ∈ x.cps.toList, 97 ≤ c ∧ c ≤ 122
def abc : Str := Str.ofString "abcdefghijklmnopqrstuvwxyz"
theorem abc_at : ∀ i : Nat, i < 26 → abc.cps.toList[i]? = some (97 + i) := by decide +kernel
theorem abc_len : abc.length = 26 := by decide +kernel
theorem tl_app (x y : Str) : (x ++ y).cps.toList = x.cps.toList ++ y.cps.toList := by
  show (x.cps ++ y.cps).toList = _
  rw [Array.toList_append]
theorem len_tl (x : Str) : x.length = x.cps.toList.length := rfl
theorem cutS_tl (z : Str) (lo hi : Option Int) : (cutS z lo hi).cps.toList = (z.cps.toList.drop (HT.sIx z.length 0 lo)).take (HT.sIx z.length z.length hi - HT.sIx z.length 0 lo) := by unfold cutS; rfl
theorem cutS_to {z : Str} {n : Nat} (h : n ≤ z.length) : (cutS z none (some (n : Int))).cps.toList = z.cps.toList.take n := by
  rw [cutS_tl, HT.sIx_none, HT.sIx_nat, List.drop_zero, Nat.sub_zero, Nat.min_eq_left h]
theorem cutS_from {z : Str} {n : Nat} (h : n ≤ z.length) : (cutS z (some (n : Int)) none).cps.toList = z.cps.toList.drop n := by
  rw [cutS_tl, HT.sIx_none, HT.sIx_nat, Nat.min_eq_left h, List.take_of_length_le (by rw [List.length_drop]; exact Nat.le_refl _)]
theorem cutL_to {α : Type} {xs : List α} (n : Nat) : cutL xs none (some (n : Int)) = xs.take n := by
  unfold cutL
  rw [HT.sIx_none, HT.sIx_nat, List.drop_zero, Nat.sub_zero, Nat.min_comm, List.take_eq_take_min (i := n), Nat.min_comm]
theorem cutL_from {α : Type} {xs : List α} (n : Nat) : cutL xs (some (n : Int)) none = xs.drop n := by
  unfold cutL
  rw [HT.sIx_none, HT.sIx_nat]
  by_cases h : n ≤ xs.length
  · rw [Nat.min_eq_left h, List.take_of_length_le (by rw [List.length_drop]; exact Nat.le_refl _)]
  · rw [Nat.min_eq_right (by omega), List.drop_length, List.take_nil, List.drop_of_length_le (by omega)]
theorem mul_tl : ∀ (z : Str) (n : Nat), (PySem.Txt.mul z (n : Int)).cps.toList = (List.replicate n z.cps.toList).flatten := by
  intro z n
  unfold PySem.Txt.mul
  by_cases h1 : (n : Int) < 1
  · have : n = 0 := by omega
    subst this
    rw [if_pos h1]; rfl
  · rw [if_neg h1]
    by_cases h2 : ((n : Int) == 1 || z.length == 0) = true
    · rw [if_pos h2]
      simp only [Bool.or_eq_true, beq_iff_eq] at h2
      rcases h2 with h2 | h2
      · have : n = 1 := by omega
        subst this
        simp
      · have : z.cps.toList = [] := List.eq_nil_of_length_eq_zero h2
        rw [this]
        simp
    · rw [if_neg h2]
      have gen : ∀ (k : Nat) (acc : Array Nat), ((List.replicate k z.cps).foldl (· ++ ·) acc).toList = acc.toList ++ (List.replicate k z.cps.toList).flatten := by
        intro k
        induction k with
        | zero => intro acc; simp
        | succ k ih =>
          intro acc
          rw [List.replicate_succ, List.foldl_cons, ih, List.replicate_succ, List.flatten_cons, Array.toList_append, List.append_assoc]
      have := gen n #[]
      simpa using this
theorem join_tl (ys : List Str) : (PySem.Txt.join (Str.ofString "") ys).cps.toList = (ys.map (·.cps.toList)).flatten := by
  rw [TL.join_eq]
  have h := TL.tl_join (Str.ofString "") ys
  show TL.tl _ = _
  rw [h]
  have e : TL.tl (Str.ofString "") = [] := by decide +kernel
  rw [e]
  have gen : ∀ l : List (List Nat), TL.joinL [] l = l.flatten := by
    intro l
    induction l with
    | nil => rfl
    | cons a r ih =>
      cases r with
      | nil => simp [TL.joinL]
      | cons b t => show a ++ ([] ++ TL.joinL [] (b :: t)) = _; rw [ih]; simp
  rw [gen]
end Dk

set_option Elab.async false
set_option linter.all false
set_option maxRecDepth 100000
set_option maxHeartbeats 1000000
namespace Dk
open PySem PySem.Spec PyProof.Rows L2
open Evl (Ex)
open Py (rp)
open PyD (pic)
/-! ### the rules with the written part named -/
section
variable {X : Cx} {K : PySem.W.Frag} {P : Program} {w : World}
theorem ixQ (h : X.K = K) : IxR X (rIx K) := h ▸ ix_seq
theorem slQ (h : X.K = K) : SlR X (rCut K) := h ▸ sl_any
theorem lenQ (h : X.K = K) : CallR X (.builtin "len") (rLen K) := h ▸ cr_len
theorem listQ (h : X.K = K) : CallR X (.type "list") (rList K) := h ▸ cr_list
theorem allQ (h : X.K = K) (c : X.calm = true) : CallR X (.builtin "all") (rAll K) := h ▸ cr_all c
theorem anyQ (h : X.K = K) (c : X.calm = true) : CallR X (.builtin "any") (rAny K) := h ▸ cr_any c
theorem sortedQ (h : X.K = K) : CallR X (.builtin "sorted") (rSortedS K) := h ▸ cr_sortedS
theorem inQ (h : X.K = K) : OpR X (compareOp .In) (rInAny K) := h ▸ op_inAny
theorem notInQ (h : X.K = K) : OpR X (compareOp .NotIn) (rNotInAny K) := h ▸ op_notInAny
theorem eqQ (h : X.K = K) (hu : X.A.units + 64 < cLine) : OpR X (compareOp .Eq) (rEqU K) := h ▸ op_eqU hu
theorem neQ (h : X.K = K) (hu : X.A.units + 64 < cLine) : OpR X (compareOp .NotEq) (rNeU K) := h ▸ op_neU hu
theorem reprQ (h : X.K = K) (gd : X.A.guards = some []) (hu : X.A.units + 64 < cLine) : CallR X (.builtin "repr") (rRepr K) := h ▸ cr_repr gd hu
theorem setQ (h : X.K = K) (hp : X.prog = P) (hw : X.w = w) (calm : X.calm = true) : CallR X (.type "set") (rSetK K P w) := h ▸ hp ▸ hw ▸ cr_setK calm
theorem lenSetQ (hp : X.prog = P) (hw : X.w = w) : CallR X (.builtin "len") (rLenK P w) := hp ▸ hw ▸ cr_lenK
theorem isiQ (h : X.K = K) : CallR X (.builtin "isinstance") (rIsi K) := h ▸ call_isi
theorem pg_tupQ {es : List Expr} {t : TGs} {k : Nat} {pos : Pos} (h : X.K = K) (p : PG X (.Tuple es k pos) (gTup X.K 2 t)) : PG X (.Tuple es k pos) (gTup K 2 t) := h ▸ p
end

section
variable {α β γ : Type} [Py α] [Py β] [Py γ]
theorem Op2.imp {r : R2} {x : α} {y : β} {P S : γ → Prop} (h : Op2 r x y P) (i : ∀ z, P z → S z) : Op2 r x y S := fun B O G H v w s hv hw Q q => h B O G H v w s hv hw Q fun u z G2 H2 p => q u z G2 H2 (i z p)
theorem Op2N.imp {r : R2} {x : α} {y : β} {P S : List γ → Prop} (h : Op2N r x y P) (i : ∀ z, P z → S z) : Op2N r x y S := fun B O G H v w s hv hw Q q => h B O G H v w s hv hw Q fun u vs z G2 H2 p => q u vs z G2 H2 (i z p)
theorem rp_list {G : Hp} {a : Addr} {vs : List V} {xs : List α} (h : G a = some (.lst vs)) (r : All2 G vs xs) : rp G (.ref a) xs := ⟨a, vs, rfl, h, r⟩
/-- one's own list from now on stands still -/
theorem Sx.rest {B : Option Addr} {O : List (Addr × HO)} {G H : Hp} {p : Addr} {vs : List V} {xs : List α} (s : Sx B ((p, .lst vs) :: O) G H) (r : All2 G vs xs) : ∃ G2, Ex G G2 ∧ Sx B O G2 H ∧ rp G2 (.ref p) xs :=
  ⟨_, s.freeze.2, s.freeze.1, rp_list upd_same (all2_up s.freeze.2 r)⟩
end
theorem rel2_get {α β : Type} {R : α → β → Prop} {xs : List α} {ys : List β} (h : Rel2 R xs ys) : ∀ {i : Nat} {y : β}, ys[i]? = some y → ∃ x, xs[i]? = some x ∧ R x y := by
  induction h with
  | nil => intro i y e; simp at e
  | cons a b ih =>
    intro i y e
    cases i with
    | zero => simp at e; subst e; exact ⟨_, rfl, a⟩
    | succ i => simp only [List.getElem?_cons_succ] at e ⊢; exact ih e
theorem filter_true {α : Type} (xs : List α) : xs.filter (fun _ => true) = xs := List.filter_eq_self.mpr fun _ _ => rfl
theorem ints_at {n i : Nat} {x : Int} (h : ((List.range n).map fun j : Nat => (j : Int))[i]? = some x) : x = (i : Int) ∧ i < n := by
  rw [List.getElem?_map] at h
  cases e : (List.range n)[i]? with
  | none => rw [e] at h; cases h
  | some j =>
    rw [e] at h
    have hj := List.getElem?_eq_some_iff.mp e
    obtain ⟨h1, h2⟩ := hj
    rw [List.getElem_range] at h2
    rw [List.length_range] at h1
    cases h
    exact ⟨by rw [h2], h1⟩
end Dk

set_option Elab.async false
set_option linter.all false
set_option maxRecDepth 100000
set_option maxHeartbeats 1000000
namespace Dk
open PySem PySem.Spec PyProof.Rows L2
open Evl (Ex)
open Py (rp)
open PyD (pic)
section
variable {α β γ : Type} [Py α] [Py β] [Py γ] {B : Option Addr} {te ta tb tc tl : TE} {tt tu : TT} {σ : L2.St} {G H : Hp} {O : List (Addr × HO)} {K : PySem.W.Frag} {D : Ends} {ts tz tw : TS} {g : TG}
/-- for i, x in enumerate(xs) -/
theorem s_forE {P : List α → Prop} (h : EvP B O tl σ G P) (s : Sx B O G H) (U : List α → Word) (h0 : ∀ xs G2, P xs → Ex G G2 → U xs 0 σ G2 O)
    (hs : ∀ xs G1 (i : Nat) x v σ2 G2 H2 O2, P xs → Ex G G1 → xs[i]? = some x → Ex G1 G2 → Sx B O2 G2 H2 → rp G2 v ((i : Int), x) → (∀ G3, Ex G3 G2 → Ex G1 G3 → U xs i σ2 G3 O2 → U xs i σ2 G2 O2) → (∃ G3, Ex G3 G2 ∧ Ex G1 G3 ∧ U xs i σ2 G3 O2) → g v σ2 H2 fun σ3 H3 => ts { D with nx := Jw B G1 (U xs) (i + 1), ct := Jw B G1 (U xs) (i + 1), bk := D.nx } σ3 H3)
    (up : ∀ xs i σ2 G3 G2 O2, Ex G3 G2 → U xs i σ2 G3 O2 → U xs i σ2 G2 O2)
    (hd : ∀ xs σ2 G2 H2 O2, P xs → Ex G G2 → Sx B O2 G2 H2 → U xs xs.length σ2 G2 O2 → D.nx σ2 H2) : tFor (iEnum K (tCons tl tNil)) g ts D σ H :=
  h G H Ex.r s _ fun v xs G1 H1 p e s1 ⟨a, vs, ev, ha, ra⟩ => ⟨a, vs, by rw [ev], SqL.of (s1.ex a _ ha), for_it (walk_enum (xs := vs)) (Jw B G1 (U xs)) ⟨G1, O, Ex.r, s1, h0 xs G1 p e⟩
    (fun i σ2 H2 _ ⟨G2, O2, e2, s2, _⟩ => SqL.of (s2.ex a _ (e2 a _ ha)))
    (fun i y σ2 H2 H3 hi ⟨G2, O2, e2, s2, u⟩ ⟨T, x1, x2, ey, hT, eH, h1, h2⟩ => by
      subst ey; subst eH
      cases h1
      obtain ⟨x, hx, rx⟩ := all2_getV ra h2
      have gr := s2.grow (o := .tup [.int (i : Nat), x2]) hT
      refine hs xs G1 i x (.ref T) σ2 _ _ O2 p e hx (Ex.t e2 gr) (s2.still hT) ⟨T, _, _, rfl, upd_same, rfl, Py.up (Ex.t e2 gr) rx⟩ (fun _ e3 _ u3 => up _ _ _ _ _ _ e3 u3) ⟨G2, gr, e2, u⟩)
    (fun σ2 H2 ⟨G2, O2, e2, s2, u⟩ => hd xs σ2 G2 H2 O2 p (Ex.t e e2) s2 (by rw [all2_len ra] at u; exact u))⟩
theorem q_forE {P : List α → Prop} (h : EvP B O tl σ G P) (s : Sx B O G H) (U : List α → Word) (h0 : ∀ xs G2, P xs → Ex G G2 → U xs 0 σ G2 O) (up : ∀ xs i σ2 G3 G2 O2, Ex G3 G2 → U xs i σ2 G3 O2 → U xs i σ2 G2 O2)
    (hs : ∀ xs G1 (i : Nat) x v σ2 G2 H2 O2, P xs → Ex G G1 → xs[i]? = some x → Ex G1 G2 → Sx B O2 G2 H2 → rp G2 v ((i : Int), x) → U xs i σ2 G2 O2 → g v σ2 H2 fun σ3 H3 => ts { D with nx := Jw B G1 (U xs) (i + 1), ct := Jw B G1 (U xs) (i + 1), bk := tz D } σ3 H3)
    (hd : ∀ xs σ2 G2 H2 O2, P xs → Ex G G2 → Sx B O2 G2 H2 → U xs xs.length σ2 G2 O2 → tz D σ2 H2) : tSeq (tFor (iEnum K (tCons tl tNil)) g ts) tz D σ H :=
  s_forE (D := { D with nx := tz D }) h s U h0 (fun xs G1 i x v σ2 G2 H2 O2 p e hx e2 s2 rv _ ⟨G3, e3, e4, u⟩ => hs xs G1 i x v σ2 G2 H2 O2 p e hx e2 s2 rv (up _ _ _ _ _ _ e3 u)) up hd

/-! ### comprehensions that choose -/
inductive Sel {α β : Type} (C : α → Bool → Prop) (R : α → β → Prop) : List α → List β → Prop
  | nil : Sel C R [] []
  | skip {x : α} {xs : List α} {ys : List β} : Sel C R xs ys → C x false → Sel C R (xs ++ [x]) ys
  | take {x : α} {y : β} {xs : List α} {ys : List β} : Sel C R xs ys → C x true → R x y → Sel C R (xs ++ [x]) (ys ++ [y])
theorem sel_len {C : α → Bool → Prop} {R : α → β → Prop} {xs : List α} {ys : List β} (h : Sel C R xs ys) : ys.length ≤ xs.length := by
  induction h with
  | nil => exact Nat.le_refl _
  | skip a b ih => rw [List.length_append]; omega
  | take a b c ih => rw [List.length_append, List.length_append]; simp; omega
theorem sel_sub {C : α → Bool → Prop} {xs ys : List α} (h : Sel C (fun x y => y = x) xs ys) : ys.Sublist xs := by
  induction h with
  | nil => exact .slnil
  | skip a b ih => exact ih.trans (List.sublist_append_left _ _)
  | take a b c ih => subst c; exact ih.append (.refl _)
theorem sel_in {C : α → Bool → Prop} {xs ys : List α} (h : Sel C (fun x y => y = x) xs ys) {a : α} (ha : ¬ C a false) (hm : a ∈ xs) : a ∈ ys := by
  induction h with
  | nil => cases hm
  | skip h b ih =>
    rcases List.mem_append.mp hm with hm | hm
    · exact ih hm
    · rw [List.mem_singleton.mp hm] at ha; exact absurd b ha
  | take h b c ih =>
    rcases List.mem_append.mp hm with hm | hm
    · exact List.mem_append_left _ (ih hm)
    · subst c; exact List.mem_append_right _ hm
def Js (B : Option Addr) (O : List (Addr × HO)) (G : Hp) (Dl : Addr) (C : α → Bool → Prop) (R : α → β → Prop) (xs : List α) (i : Nat) (H : Hp) : Prop :=
  ∃ G2 acc ys, Ex G G2 ∧ Sx B ((Dl, .lst acc) :: O) G2 H ∧ All2 G2 acc ys ∧ Sel C R (xs.take i) ys
theorem en_lcS {ws : List Nat} {P : List α → Prop} (C : α → Bool → Prop) (R : α → β → Prop) (h : EvP B O tl σ G P) (hz : ∀ xs, P xs → xs.length ≤ 1000000)
    (ht : ∀ xs x v G2 H2 O2 (Q : L2.St → Hp → Prop), P xs → x ∈ xs → Ex G G2 → Sx B O2 G2 H2 → rp G2 v x → (∀ σ2, wipe σ2 ws = wipe σ ws → EvT B O2 tt σ2 G2 (C x) → (C x true → ∀ G3, Ex G2 G3 → EvP B O2 te σ2 G3 (R x)) → Q σ2 H2) → g v (wipe σ ws) H2 Q) :
    EvN B O (tLc (iList K tl) g tt te ws) σ G fun ys => ∃ xs, P xs ∧ Sel C R xs ys := fun G1 H1 e s Q q =>
  h G1 H1 e s _ fun v xs G2 H2 p e2 s2 ⟨a, vs, ev, ha, ra⟩ => ⟨a, ev, ⟨vs, SqL.of (s2.ex a _ ha)⟩, fun Dl hD => lc_list (xs := vs) (Js B O G2 Dl C R xs) ⟨G2, [], [], Ex.r, s2.mine hD, .nil, .nil⟩
    (fun i H3 _ ⟨G3, _, _, e3, s3, _, _⟩ => SqL.of (s3.ex a _ (e3 a _ ha)))
    (fun i y H3 hi ⟨G3, acc, ys, e3, s3, r3, l3⟩ => by
      obtain ⟨x, hx, rx⟩ := all2_getV ra hi
      refine ht xs x y G3 H3 _ _ p (List.mem_of_getElem? hx) (Ex.t e (Ex.t e2 e3)) s3 (Py.up e3 rx) fun σ2 hw h1 h2 => ⟨hw, h1 G3 H3 Ex.r s3 _ fun b G4 H4 hb e4 s4 => ?_⟩
      have al : acc.length ≤ 1000000 := by
        rw [all2_len r3]
        have := sel_len l3
        rw [List.length_take] at this
        have := hz xs p
        omega
      cases b with
      | true =>
        rw [if_pos rfl]
        refine h2 hb G4 e4 G4 H4 Ex.r s4 _ fun u z G5 H5 rz e5 s5 ru => ⟨acc, s5.head.1, line_lt al, G5, acc ++ [u], ys ++ [z], Ex.t e3 (Ex.t e4 e5), s5.put, all2_app (all2_up (Ex.t e4 e5) r3) (all2_one ru), ?_⟩
        rw [take_snoc hx]
        exact .take l3 hb rz
      | false =>
        rw [if_neg Bool.false_ne_true]
        refine ⟨G4, acc, ys, Ex.t e3 e4, s4, all2_up e4 r3, ?_⟩
        rw [take_snoc hx]
        exact .skip l3 hb)
    (fun H3 ⟨G3, acc, ys, e3, s3, r3, l3⟩ => q Dl acc ys G3 H3 ⟨xs, p, by rw [all2_len ra, List.take_length] at l3; exact l3⟩ (Ex.t e2 e3) s3 r3)⟩
theorem et_orP {P R : Bool → Prop} (h1 : EvT B O tt σ G P) (h2 : P false → EvT B O tu σ G R) : EvT B O (tOr tt tu) σ G (fun c => (c = true ∧ P true) ∨ (P false ∧ R c)) := fun G1 H1 e s Q q => h1 G1 H1 e s _ fun c G2 H2 p e2 s2 => by
  cases c with
  | true => exact q true G2 H2 (.inl ⟨rfl, p⟩) e2 s2
  | false => exact h2 p G2 H2 (Ex.t e e2) s2 Q fun d G3 H3 p3 e3 s3 => q d G3 H3 (.inr ⟨p, p3⟩) (Ex.t e2 e3) s3
/-- over a text's signs -/
theorem en_lcT {ws : List Nat} {z : Str} (c : Str → Bool) (R : Str → β → Prop) (h : EvD B O tl σ G z) (hz : z.length ≤ 1000000)
    (ht : ∀ d G2 H2 O2 (Q : L2.St → Hp → Prop), d ∈ z.cps.toList → Ex G G2 → Sx B O2 G2 H2 → (∀ σ2, wipe σ2 ws = wipe σ ws → EtD B O2 tt σ2 G2 (c ⟨#[d]⟩) → (c ⟨#[d]⟩ = true → EvP B O2 te σ2 G2 (R ⟨#[d]⟩)) → Q σ2 H2) → g (.str ⟨#[d]⟩) (wipe σ ws) H2 Q) :
    EvN B O (tLc (iStr tl) g tt te ws) σ G fun ys => Rel2 R ((z.cps.toList.map fun d => (⟨#[d]⟩ : Str)).filter c) ys := fun G1 H1 e s Q q =>
  h G1 H1 e s _ fun v z' G2 H2 p e2 s2 r => by
    have p' : z' = z := p
    subst p'
    refine ⟨z', r, fun Dl hD => lc_it walk_str (Jc B O G2 Dl c R (z'.cps.toList.map fun d => (⟨#[d]⟩ : Str))) ⟨G2, [], [], Ex.r, s2.mine hD, .nil, .nil⟩ (fun _ _ _ _ => trivial)
      (fun i y H3 H4 hi ⟨G3, acc, ys, e3, s3, r3, l3⟩ ⟨eH, d, hd, ey⟩ => ?_) (fun H3 ⟨G3, acc, ys, e3, s3, r3, l3⟩ => q Dl acc ys G3 H3 (by rw [List.take_of_length_le (by rw [List.length_map]; exact Nat.le_refl _)] at l3; exact l3) (Ex.t e2 e3) s3 r3)⟩
    subst eH; subst ey
    have hx : (z'.cps.toList.map fun d => (⟨#[d]⟩ : Str))[i]? = some ⟨#[d]⟩ := by rw [List.getElem?_map, Array.getElem?_toList, hd]; rfl
    have hm : d ∈ z'.cps.toList := List.mem_of_getElem? (by rw [Array.getElem?_toList]; exact hd)
    exact ht d G3 _ _ _ hm (Ex.t e (Ex.t e2 e3)) s3 fun σ2 hw h1 h2 => ⟨hw, jc_turn hx (by rw [List.length_map]; exact hz) e3 s3 r3 l3 h1 h2⟩
theorem ev_neg {i : Int} (h : EvD B O te σ G i) : EvD B O (tUn (rU fun i => .int (-i)) te) σ G (-i) := fun G1 H1 e s Q q => h G1 H1 e s _ fun v c G2 H2 p e2 s2 r => ⟨c, r, q _ _ G2 H2 (by rw [p]) e2 s2 rfl⟩
theorem last_at {xs : List V} {a : V} (h : xs.getLast? = some a) : ixN xs.length (-1) = some (xs.length - 1) ∧ xs[xs.length - 1]? = some a := by
  have hx : xs[xs.length - 1]? = some a := by rw [← List.getLast?_eq_getElem?]; exact h
  have hpos := (List.getElem?_eq_some_iff.mp hx).1
  refine ⟨?_, hx⟩
  unfold ixN
  rw [if_neg (by omega), if_pos (by omega)]
  congr 1
  omega
theorem ev_ixOwnLast {i : Nat} {l : Addr} {vs : List V} {xs : List α} {a : α} (hm : (l, HO.lst vs) ∈ O) (hv : σ[i]? = some (some (.ref l))) (r : All2 G vs xs) (h : EvD B O te σ G (-1 : Int)) (hj : xs[xs.length - 1]? = some a) : EvD B O (tOp (rIx K) (tVar i) te) σ G a := fun G1 H1 e s Q q =>
  ⟨_, hv, h G1 H1 e s _ fun w j' G2 H2 p e2 s2 rw => by
    have p' : j' = -1 := p
    subst p'
    have hlen := all2_len r
    obtain ⟨u, hu, ru⟩ := all2_get r hj
    rw [← hlen] at hu
    obtain ⟨h1, h2⟩ := last_at (xs := vs) (a := u) (by rw [List.getLast?_eq_getElem?]; exact hu)
    refine .inl ⟨l, vs, -1, u, rfl, rw, SqL.of (s2.own _ hm).1, ?_, q u a G2 H2 rfl e2 s2 (Py.up (Ex.t e e2) ru)⟩
    unfold atI
    rw [h1]
    exact h2⟩
/-- l[-1] = e, l one's own -/
theorem s_putLast {i : Nat} {l : Addr} {vs : List V} {P : α → Prop} (hv : σ[i]? = some (some (.ref l))) (h : EvP B ((l, .lst vs) :: O) te σ G P) (h' : ∀ G2, Ex G G2 → EvD B ((l, .lst vs) :: O) ta σ G2 (-1 : Int)) (hne : vs ≠ []) (s : Sx B ((l, .lst vs) :: O) G H)
    (k : ∀ v a G2 H2, P a → Ex G G2 → Sx B ((l, .lst (vs.set (vs.length - 1) v)) :: O) G2 H2 → rp G2 v a → D.nx σ H2) : tAsg te (gSub (tVar i) ta rSetL) D σ H :=
  h G H Ex.r s _ fun v a G2 H2 p e s2 r => ⟨_, hv, h' G2 e G2 H2 Ex.r s2 _ fun w j G3 H3 pj e3 s3 rw => by
    have p' : j = -1 := pj
    subst p'
    obtain ⟨h1, _⟩ := last_at (xs := vs) (List.getLast?_eq_some_getLast hne)
    exact ⟨l, vs, -1, _, rfl, rw, s3.head.1, h1, k v a G3 _ p (Ex.t e e3) s3.put (Py.up e3 r)⟩⟩
theorem all2_set {G : Hp} : ∀ {vs : List V} {xs : List α} {v : V} {x : α} (n : Nat), All2 G vs xs → rp G v x → All2 G (vs.set n v) (xs.set n x)
  | _, _, _, _, _, .nil, _ => .nil
  | _, _, _, _, 0, .cons _ t, r => .cons r t
  | _, _, _, _, n + 1, .cons a t, r => .cons a (all2_set n t r)
end
end Dk

set_option Elab.async false
set_option linter.all false
set_option maxRecDepth 100000
set_option maxHeartbeats 1000000
namespace Dk
open PySem PySem.Spec PyProof.Rows L2
open Evl (Ex)
open Py (rp)
open PyD (pic)
section
variable {P : Program} {w : World} {K : PySem.W.Frag} {mg : Str → Option Value} {base : Heap} {k : Nat} {f : Addr} {fd : FuncData} {N ps : List Str} {sp : Sp} {x qual : Str} {st : Stmt}
/-- a def that lets no exception out, and shows nothing -/
theorem okF (F : Fun K x qual st f fd) (S : FnScope N ps (defScope st)) (many : ∀ vs H Q E, sp vs H Q E → vs.length = ps.length)
    (body : ∀ (cdv : Value) (A : Around) (outer : List Env) (s : Shared) (H : Hp) (vs : List V) (Q : VK) (E : XK),
      Room k (cxOf CX0 P w K mg base N qual (defScope st) f cdv A outer s H E).nox.A → sp vs H Q E →
      ∃ t, PSs (cxOf CX0 P w K mg base N qual (defScope st) f cdv A outer s H E).nox (defBody st) t ∧ t { nx := fun _ H' => Q .non H', rt := Q } (start N vs) H) :
    FnOk P w K mg base CX0 (k + 1) f fd ps sp where
  len := many
  run := by
    obtain ⟨_, _, _, _, _, _, cdv, _, _, rfl, lk, hcd⟩ := F.ex
    intro A outer s H args us vs Q E room e0 hb r h
    have keep := fun b o e => (e0.bs b o e).1
    have inK : K.In s.heap := e0.mod.kin.keeps keep
    have kinds : ∀ y ∈ ps.zip us, (defScope st).names.lookup y.1 = some .local ∨ ((defScope st).names.lookup y.1 = some .cell ∧ ((cellsFrom (s.heap.objs.size + 1) (defScope st).names []).lookup y.1).isSome = true) :=
      fun y hy => (S.par y.1 (List.of_mem_zip hy).1).imp id fun q => ⟨q, PySem.W.cellsFrom_some _ _ _ (.inl q)⟩
    refine codeAny_call_function room.depth (inK _ _ lk) rfl S.co S.gen rfl (PySem.W.codeRec_of inK hcd) (hb _ _ _ _ (wpAny_newFunctionEnv_cells S.kind kinds ?_))
    rintro env rfl s1 inC
    refine ⟨(e0.mod.nolimit.keeps keep).keeps inC.toInCall.keep, codeAny_func ?_⟩
    obtain ⟨t, ht, hq⟩ := body cdv A outer s H vs Q E (room.deeper _) h
    exact wpAny_mono (ht.nox.run [] s1 (start N vs) H _ (inv_start S room.hd e0 (many _ _ _ _ h) r inC) hq) (fun fl s' q => body_end fl q) (fun _ _ q => q)
end
section
variable {α β γ : Type} [Py α] [Py β] [Py γ] {B : Option Addr} {O : List (Addr × HO)} {te ta tb td tl : TE} {tt : TT} {ts tz : TS} {g : TG} {σ : L2.St} {G H : Hp} {K : PySem.W.Frag} {D : Ends}
/-! ### isinstance -/
theorem ev_isiS {P : Str → Prop} (h : EvP B O te σ G P) : EvD B O (tCB (rIsi K) (tCons te (tCons (tC (.ty "str")) tNil))) σ G true := fun G1 H1 e s Q q =>
  h G1 H1 e s _ fun v x G2 H2 p e2 s2 r => ⟨v, _, .type "str", .type "str", true, rfl, .ty _, by cases r; exact .base (.str _), rfl, q _ _ G2 H2 rfl e2 s2 rfl⟩
theorem ev_isiL {P : List α → Prop} (h : EvP B O te σ G P) : EvD B O (tCB (rIsi K) (tCons te (tCons (tC (.ty "list")) tNil))) σ G true := fun G1 H1 e s Q q =>
  h G1 H1 e s _ fun v x G2 H2 p e2 s2 ⟨a, vs, ev, ha, ra⟩ => ⟨v, _, .type "list", .type "list", true, rfl, .ty _, by rw [ev]; exact .base (.lst (s2.ex a _ ha)), rfl, q _ _ G2 H2 rfl e2 s2 rfl⟩
theorem ev_isiP {P : α × β → Prop} (h : EvP B O te σ G P) : EvD B O (tCB (rIsi K) (tCons te (tCons (tC (.ty "tuple")) tNil))) σ G true := fun G1 H1 e s Q q =>
  h G1 H1 e s _ fun v x G2 H2 p e2 s2 ⟨a, x1, y1, ev, ha, _, _⟩ => ⟨v, _, .type "tuple", .type "tuple", true, rfl, .ty _, by rw [ev]; exact .base (.tup (s2.ex a _ ha)), rfl, q _ _ G2 H2 rfl e2 s2 rfl⟩
theorem ev_allT {P : List Bool → Prop} (h : EvP B O te σ G P) (ht : ∀ bs, P bs → ∀ b ∈ bs, b = true) : EvD B O (tCB (rAll K) (tCons te tNil)) σ G true := fun G1 H1 e s Q q =>
  h G1 H1 e s _ fun v xs G2 H2 p e2 s2 ⟨a, vs, ev, ha, ra⟩ => ⟨a, xs, by rw [ev], SqL.of (s2.ex a _ (by rw [ha, all2_bls ra])), q _ true G2 H2 rfl e2 s2 (by
    have : xs.all id = true := List.all_eq_true.mpr fun b hb => ht xs p b hb
    rw [this]; rfl)⟩
theorem et_no {b : Bool} (h : EtD B O tt σ G b) : EtD B O (tNot tt) σ G (!b) := et_not (P := fun _ => True) h
/-- x is not None, x None -/
theorem o2_notN : Op2 (fun x y H Q => y = V.non ∧ Q (.bl (!decide (x = V.non))) H) (none : Option α) (none : Option β) (· = false) := fun B O G H v w s hv hw Q q => ⟨hw, by cases (show v = V.non from hv); exact q _ false G H rfl Ex.r s rfl⟩
theorem ev_inOwn {i : Nat} {l : Addr} {vs : List V} {x : Str} {xs : List Str} (hm : (l, HO.lst vs) ∈ O) (hv : σ[i]? = some (some (.ref l))) (r : All2 G vs xs) (h : EvD B O ta σ G x) : EvD B O (tOp (rInAny K) ta (tVar i)) σ G (decide (x ∈ xs)) := fun G1 H1 e s Q q =>
  h G1 H1 e s _ fun v x' G2 H2 p e2 s2 rx => ⟨_, hv, by
    have p : x' = x := p
    subst p
    cases rx
    refine .inl ⟨l, vs, rfl, .inl (SqL.of (s2.own _ hm).1), rfl, ?_, q _ _ G2 H2 rfl e2 s2 ?_⟩
    · rw [all2_strs r]; exact flat_strs xs
    · rw [all2_strs r, inV_strs]; rfl⟩
/-- self.f = e, self one's own and at the head -/
theorem q_fld {i : Nat} {f : Str} {x C dx : Addr} {fs : List (Str × V)} {P : α → Prop} (hv : σ[i]? = some (some (.ref x))) (cl : Cls K C) (na : NoAttr K C f) (hz : fs.length < 1000) (h : EvP B ((x, .ins C dx fs) :: O) te σ G P) (s : Sx B ((x, .ins C dx fs) :: O) G H)
    (k : ∀ v a G2 H2, P a → Ex G G2 → Sx B ((x, .ins C dx (putF f v fs)) :: O) G2 H2 → rp G2 v a → tz D σ H2) : tSeq (sFld K (tVar i) te f) tz D σ H :=
  h G H Ex.r s _ fun v a G2 H2 p e s2 r => ⟨_, hv, x, C, dx, fs, rfl, s2.head.1, cl, na, hz, k v a G2 _ p e s2.put r⟩
theorem s_fld {i : Nat} {f : Str} {x C dx : Addr} {fs : List (Str × V)} {P : α → Prop} (hv : σ[i]? = some (some (.ref x))) (cl : Cls K C) (na : NoAttr K C f) (hz : fs.length < 1000) (h : EvP B ((x, .ins C dx fs) :: O) te σ G P) (s : Sx B ((x, .ins C dx fs) :: O) G H)
    (k : ∀ v a G2 H2, P a → Ex G G2 → Sx B ((x, .ins C dx (putF f v fs)) :: O) G2 H2 → rp G2 v a → D.nx σ H2) : sFld K (tVar i) te f D σ H :=
  h G H Ex.r s _ fun v a G2 H2 p e s2 r => ⟨_, hv, x, C, dx, fs, rfl, s2.head.1, cl, na, hz, k v a G2 _ p e s2.put r⟩

/-! ### dicts whose keys are texts -/
structure Dct (β : Type) where
  items : List (Str × β)
def Kv [Py β] (G : Hp) (kv : Key × V) (p : Str × β) : Prop := kv.1 = .inr p.1 ∧ rp G kv.2 p.2
abbrev AllK [Py β] (G : Hp) (kvs : List (Key × V)) (ps : List (Str × β)) : Prop := Paired (Kv G) kvs ps
theorem allK_up [Py β] {G G' : Hp} (e : Ex G G') {kvs : List (Key × V)} {ps : List (Str × β)} (h : AllK G kvs ps) : AllK G' kvs ps := Paired.mapP h fun _ _ ⟨h1, h2⟩ => ⟨h1, Py.up e h2⟩
instance [Py β] : Py (Dct β) := ⟨fun G v d => ∃ a kvs, v = .ref a ∧ G a = some (.dK kvs) ∧ AllK G kvs d.items, fun e ⟨a, kvs, h1, h2, h3⟩ => ⟨a, kvs, h1, e a _ h2, allK_up e h3⟩⟩
theorem allK_app [Py β] {G : Hp} : ∀ {ks ls : List (Key × V)} {ps qs : List (Str × β)}, AllK G ks ps → AllK G ls qs → AllK G (ks ++ ls) (ps ++ qs)
  | _, _, _, _, .nil, s => s
  | _, _, _, _, .cons r t, s => .cons r (allK_app t s)
theorem allK_keys [Py β] {G : Hp} : ∀ {kvs : List (Key × V)} {ps : List (Str × β)}, AllK G kvs ps → kvs.map (·.1) = (ps.map (·.1)).map Sum.inr
  | _, _, .nil => rfl
  | _, _, .cons r t => by rw [List.map_cons, List.map_cons, List.map_cons, allK_keys t, r.1]
theorem allK_get [Py β] {G : Hp} : ∀ {kvs : List (Key × V)} {ps : List (Str × β)} {x : Str} {c : β}, AllK G kvs ps → (ps.map (·.1)).Nodup → (x, c) ∈ ps → ∃ v, valV kvs (.inr x) = some v ∧ rp G v c
  | _, _, _, _, .nil, _, h => nomatch h
  | kv :: kvs, p :: ps, x, c, .cons r t, nd, h => by
    rw [List.map_cons] at nd
    rcases List.mem_cons.mp h with h | h
    · subst h
      exact ⟨kv.2, valV_pos r.1, r.2⟩
    · obtain ⟨v, h1, h2⟩ := allK_get t (List.nodup_cons.mp nd).2 h
      refine ⟨v, ?_, h2⟩
      rw [valV_neg (fun e => ?_)]
      · exact h1
      · rw [r.1] at e
        have e := Sum.inr.inj e
        exact (List.nodup_cons.mp nd).1 (e ▸ List.mem_map_of_mem h)
theorem allK_none [Py β] {G : Hp} : ∀ {kvs : List (Key × V)} {ps : List (Str × β)} {x : Str}, AllK G kvs ps → x ∉ ps.map (·.1) → valV kvs (.inr x) = none
  | _, _, _, .nil, _ => valV_nil
  | kv :: kvs, p :: ps, x, .cons r t, h => by
    rw [List.map_cons, List.mem_cons, not_or] at h
    rw [valV_neg fun e => ?_]
    · exact allK_none t h.2
    · rw [r.1] at e
      exact h.1 (Sum.inr.inj e).symm
/-- x not in d; d[x] -/
theorem ev_dnotin {d : Dct β} {x : Str} {c : β} (h : EvD B O ta σ G x) (hd : EvD B O td σ G d) (nd : (d.items.map (·.1)).Nodup) (hx : (x, c) ∈ d.items) : EvD B O (tDNotIn ta td) σ G false := fun G1 H1 e s Q q =>
  h G1 H1 e s _ fun v x' G2 H2 p e2 s2 rx => hd G2 H2 (Ex.t e e2) s2 _ fun u d' G3 H3 p3 e3 s3 ⟨a, kvs, ev, ha, ra⟩ => by
    have p : x' = x := p
    have p3 : d' = d := p3
    subst p; subst p3; subst ev; cases rx
    obtain ⟨w, hw, rw'⟩ := allK_get ra nd hx
    exact ⟨a, some w, rfl, .inl ⟨kvs, .inr x', .of (s3.ex a _ ha), rfl, hw.symm⟩, q _ false G3 H3 rfl (Ex.t e2 e3) s3 rfl⟩
theorem ev_dget {d : Dct β} {x : Str} {c : β} (hd : EvD B O td σ G d) (h : EvD B O ta σ G x) (nd : (d.items.map (·.1)).Nodup) (hx : (x, c) ∈ d.items) : EvD B O (tDGet td ta) σ G c := fun G1 H1 e s Q q =>
  hd G1 H1 e s _ fun u d' G2 H2 p e2 s2 rd => h G2 H2 (Ex.t e e2) s2 _ fun v x' G3 H3 p3 e3 s3 rx => by
    have p : d' = d := p
    have p3 : x' = x := p3
    obtain ⟨a, kvs, ev, ha, ra⟩ := Py.up e3 rd
    subst p; subst p3; subst ev; cases rx
    obtain ⟨w, hw, rw'⟩ := allK_get ra nd hx
    exact ⟨a, w, rfl, .inl ⟨kvs, .inr x', .of (s3.ex a _ ha), rfl, hw.symm⟩, q _ c G3 H3 rfl (Ex.t e2 e3) s3 rw'⟩
/-- sorted(d) -/
def rSrtD : List V → Hp → VK → Prop := fun xs H Q =>
  ∃ (a : Addr) (kvs : List (Key × V)) (ks : List Str), xs = [.ref a] ∧ Rd H a (.dK kvs) ∧
    kvs.map (·.1) = ks.map Sum.inr ∧ ks.length < 64 ∧
    ∀ ys p, ys.Perm ks → sortedS ys = true → H p = none →
      Q (.ref p) (upd H p (.lst (ys.map V.str)))
theorem srtDQ {X : Cx} (c : X.calm = true) : CallR X (.builtin "sorted") rSrtD := call_sortedD c
theorem en_sortedD {d : Dct β} (h : EvD B O te σ G d) (hl : d.items.length < 64) : EvN B O (tCB rSrtD (tCons te tNil)) σ G fun ys => ys.Perm (d.items.map (·.1)) ∧ sortedS ys = true := fun G1 H1 e s Q q =>
  h G1 H1 e s _ fun v d' G2 H2 p e2 s2 ⟨a, kvs, ev, ha, ra⟩ => by
    have p : d' = d := p
    subst p; subst ev
    exact ⟨a, kvs, _, rfl, .of (s2.ex a _ ha), allK_keys ra, by rw [List.length_map]; exact hl, fun ys l pm so hl => q l _ ys G2 _ ⟨pm, so⟩ e2 (s2.mine hl) (all2_of_strs ys)⟩
theorem rel2_fst {α β : Type} {key : α → Str} {R : α → β → Prop} {xs : List α} {ps : List (Str × β)} (h : Rel2 (fun x p => p.1 = key x ∧ R x p.2) xs ps) : ps.map (·.1) = xs.map key := by
  induction h with
  | nil => rfl
  | cons a b ih => rw [List.map_cons, List.map_cons, ih, a.1]
theorem nodup_at {α : Type} {key : α → Str} {xs : List α} {i : Nat} {x : α} (nd : (xs.map key).Nodup) (h : xs[i]? = some x) : key x ∉ (xs.take i).map key := by
  have e : xs.map key = (xs.take i).map key ++ (xs.drop i).map key := by rw [← List.map_append, List.take_append_drop]
  rw [e, List.nodup_append] at nd
  intro hm
  refine nd.2.2 _ hm (key x) (List.mem_map_of_mem ?_) rfl
  exact List.mem_of_getElem? (i := 0) (by rw [List.getElem?_drop]; exact h)
/-- {key: value for .. in xs}, the keys all different texts -/
theorem ev_dc {tk tv : TE} {ws : List Nat} {P : List α → Prop} (key : α → Str) (R : α → β → Prop) (h : EvP B O tl σ G P) (hz : ∀ xs, P xs → xs.length ≤ 1000000 ∧ (xs.map key).Nodup)
    (ht : ∀ xs x v G2 H2 O2 (Q : L2.St → Hp → Prop), P xs → x ∈ xs → Ex G G2 → Sx B O2 G2 H2 → rp G2 v x → (∀ σ2, wipe σ2 ws = wipe σ ws → EvD B O2 tk σ2 G2 (key x) → EvP B O2 tv σ2 G2 (R x) → Q σ2 H2) → g v (wipe σ ws) H2 Q) :
    EvP B O (tDc (iList K tl) g tYes tk tv ws) σ G fun d : Dct β => ∃ xs, P xs ∧ Rel2 (fun x p => p.1 = key x ∧ R x p.2) xs d.items := fun G1 H1 e s Q q =>
  h G1 H1 e s _ fun v xs G2 H2 p e2 s2 ⟨a, vs, ev, ha, ra⟩ => ⟨a, ev, ⟨vs, SqL.of (s2.ex a _ ha)⟩, fun Dl hD => by
    obtain ⟨hlen, hnd⟩ := hz xs p
    have vlen := all2_len ra
    let Pv : Nat → Hp → Prop := fun i H => ∃ G3 kvs ps, Ex G2 G3 ∧ Sx B ((Dl, .dK kvs) :: O) G3 H ∧ AllK G3 kvs ps ∧ Rel2 (fun x p => p.1 = key x ∧ R x p.2) (xs.take i) ps
    refine ⟨fun i m H => m = vs.length - i ∧ i ≤ vs.length ∧ Pv i H, ⟨vs.length, by simp, Nat.zero_le _, G2, [], [], Ex.r, s2.mine hD, .nil, .nil⟩, ?_⟩
    rintro i m H ⟨rfl, hi, G3, kvs, ps, e3, s3, r3, l3⟩
    have sq : SqL K H a vs := SqL.of (s3.ex a _ (e3 a _ ha))
    by_cases hlt : i < vs.length
    · refine .inr ⟨⟨vs, vs[i], sq, by simp [hlt]⟩, Pv (i + 1), fun H' p' => ⟨vs.length - (i + 1), by omega, rfl, hlt, p'⟩, fun y H' hy => ?_⟩
      obtain ⟨rfl, hy⟩ := hy
      obtain ⟨x, hx, rx⟩ := all2_getV ra (hy vs sq)
      refine ht xs x y G3 _ _ _ p (List.mem_of_getElem? hx) (Ex.t e (Ex.t e2 e3)) s3 (Py.up e3 rx) fun σ2 hw hk hv => ⟨hw, ?_⟩
      refine et_yes G3 _ Ex.r s3 _ fun b G4 H4 pb e4 s4 => ?_
      have pb : b = true := pb
      subst pb
      rw [if_pos rfl]
      refine hk G4 H4 e4 s4 _ fun w k' G5 H5 pk e5 s5 rw5 => hv G5 H5 (Ex.t e4 e5) s5 _ fun z c G6 H6 pc e6 s6 rz => ?_
      have pk : k' = key x := pk
      subst pk
      cases rw5
      have hps := rel2_fst l3
      have hpl : ps.length = (xs.take i).length := by
        have := congrArg List.length hps
        rw [List.length_map, List.length_map] at this
        exact this
      have hkl : kvs.length = ps.length := Paired.length r3
      have x36 : Ex G3 G6 := Ex.t e4 (Ex.t e5 e6)
      refine ⟨kvs, .inr (key x), rfl, s6.head.1, line_lt ?_, G6, kvs ++ [(.inr (key x), z)], ps ++ [(key x, c)], Ex.t e3 x36, ?_, ?_, ?_⟩
      · rw [hkl, hpl, List.length_take]
        omega
      · rw [putK_new z (allK_none r3 (by rw [hps]; exact nodup_at hnd hx))]
        exact s6.put
      · exact allK_app (allK_up x36 r3) (.cons ⟨rfl, rz⟩ .nil)
      · rw [take_snoc hx]
        exact rel2_snoc l3 ⟨rfl, pc⟩
    · have ei : i = vs.length := by omega
      subst ei
      rw [vlen, List.take_length] at l3
      obtain ⟨s4, e4⟩ := s3.freeze
      exact .inl ⟨⟨vs, sq, Nat.le_refl _⟩, q _ ⟨ps⟩ _ _ ⟨xs, p, l3⟩ (Ex.t e2 (Ex.t e3 e4)) s4 ⟨Dl, kvs, rfl, upd_same, allK_up e4 r3⟩⟩⟩
end
end Dk

set_option Elab.async false
set_option linter.all false
set_option maxRecDepth 100000
set_option maxHeartbeats 1000000
namespace Dk
open PySem PySem.Spec PyProof.Rows L2
open Evl (Ex)
open Py (rp)
open PyD (pic)
/-! ### texts in order, pairs of texts in order -/
def ltS (x y : Str) : Bool := decide (x.cps.toList < y.cps.toList)
theorem str_ext {x y : Str} (h : x.cps.toList = y.cps.toList) : x = y := by
  cases x; cases y
  congr
  exact Array.toList_inj.mp h
theorem ltS_asym {x y : Str} (h : ltS x y = true) : ltS y x = false := decide_eq_false fun h2 => List.lt_asymm (of_decide_eq_true h) h2
theorem ltS_irr (x : Str) : ltS x x = false := decide_eq_false (List.lt_irrefl _)
theorem ltS_tr {x y z : Str} (h1 : ltS y x = false) (h2 : ltS z y = false) : ltS z x = false := decide_eq_false (by
  have a := List.not_lt.mp (of_decide_eq_false h1)
  have b := List.not_lt.mp (of_decide_eq_false h2)
  exact List.not_lt.mpr (List.le_trans a b))
theorem ltS_anti {x y : Str} (h1 : ltS x y = false) (h2 : ltS y x = false) : x = y := str_ext (by
  have a := List.not_lt.mp (of_decide_eq_false h1)
  have b := List.not_lt.mp (of_decide_eq_false h2)
  exact List.le_antisymm b a)
def lexS (p q : Str × Str) : Bool := if p.1 = q.1 then ltS p.2 q.2 else ltS p.1 q.1
theorem lexS_asym {p q : Str × Str} (h : lexS p q = true) : lexS q p = false := by
  unfold lexS at h ⊢
  by_cases e : p.1 = q.1
  · rw [if_pos e] at h
    rw [if_pos e.symm]
    exact ltS_asym h
  · rw [if_neg e] at h
    rw [if_neg fun z => e z.symm]
    exact ltS_asym h
theorem lexS_le {p q : Str × Str} : lexS q p = false ↔ ltS q.1 p.1 = false ∧ (p.1 = q.1 → ltS q.2 p.2 = false) := by
  unfold lexS
  by_cases e : q.1 = p.1
  · rw [if_pos e, e]
    exact ⟨fun h => ⟨ltS_irr _, fun _ => h⟩, fun h => h.2 rfl⟩
  · rw [if_neg e]
    exact ⟨fun h => ⟨h, fun z => absurd z.symm e⟩, fun h => h.1⟩
theorem lexS_tr {p q r : Str × Str} (h1 : lexS q p = false) (h2 : lexS r q = false) : lexS r p = false := by
  rw [lexS_le] at h1 h2 ⊢
  refine ⟨ltS_tr h1.1 h2.1, fun e => ?_⟩
  have e1 : p.1 = q.1 := ltS_anti (by rw [e]; exact h2.1) h1.1
  exact ltS_tr (h1.2 e1) (h2.2 (e1.symm.trans e))
theorem swo_lexS {α : Type} (k : α → Str × Str) : SrtO.Swo fun v u => lexS (k v) (k u) := ⟨fun _ _ h => lexS_asym h, fun _ _ _ h1 h2 => lexS_tr h1 h2⟩
section
variable {prog : Program} {w : World} {A : Around} {s : Shared}
/-- a tuple of two texts in the heap -/
def IsTT (h : Heap) (v : Value) (p : Str × Str) : Prop :=
  ∃ a o t u n, v = .ref a ∧ h.get? a = some o ∧
    o.cls = .type "tuple" ∧ o.data = .seq #[.str p.1 t, .str p.2 u] n
theorem IsTT.up {h h' : Heap} {v : Value} {p : Str × Str} (x : IsTT h v p)
    (k : ∀ b o, h.get? b = some o → o.cls = .type "tuple" → h'.get? b = some o) : IsTT h' v p := by
  obtain ⟨a, o, t, u, n, e, ho, hc, hd⟩ := x
  exact ⟨a, o, t, u, n, e, k _ _ ho hc, hc, hd⟩
theorem tt_cmp {vs : List Value} {k : Value → Str × Str} (hp : ∀ v ∈ vs, IsTT s.heap v (k v)) :
    SrtO.Cmp prog w A s (PyProof.Rows.tuples' true) (fun p => p.1 ∈ vs) (SrtO.lt2 fun v u => lexS (k v) (k u)) := by
  intro p q hm hm'
  have h1 := hp _ hm
  have h2 := hp _ hm'
  show wpAny (model prog w) A (keyLt' (PyProof.Rows.tuples' true) p.1 q.1) (fun r s' => s' = s ∧ r = lexS (k p.1) (k q.1)) (fun _ _ => False) s
  generalize k p.1 = kp at h1 ⊢
  generalize k q.1 = kq at h2 ⊢
  obtain ⟨x, y⟩ := kp
  obtain ⟨x', y'⟩ := kq
  obtain ⟨a, o, t, u, n, e, ho, hc, hd⟩ := h1
  obtain ⟨a', o', t', u', n', e', ho', hc', hd'⟩ := h2
  rw [e, e']
  refine PySem.W.kat_lt ho hd ho' hd' ?_
  show PySem.W.KatLex prog w A true (decide (2 < 2)) _ [(.str x t, .str x' t'), (.str y u, .str y' u')] 0 s
  refine PySem.W.kat_cons (SeqAt.EqAt.str_str x t x' t' prog w _ _ ?_)
  refine PySem.W.kat_go (fun e1 => ?_) (fun e1 => ?_)
  · have ex : x = x' := by simpa using e1
    refine PySem.W.kat_yes (PySem.W.kat_cons (SeqAt.EqAt.str_str y u y' u' prog w _ _ ?_))
    refine PySem.W.kat_go (fun e2 => ?_) (fun e2 => ?_)
    · have ey : y = y' := by simpa using e2
      refine PySem.W.kat_yes (PySem.W.kat_nil ⟨rfl, ?_⟩)
      show _ = lexS (x, y) (x', y')
      rw [ex, ey]
      unfold lexS
      rw [if_pos rfl]
      exact (ltS_irr _).symm
    · refine PySem.W.kat_no (PySem.W.kat_one _ _ (PyProof.Rows.lt_str ?_))
      refine (show s = s ∧ decide (y.cps.toList < y'.cps.toList) = lexS (x, y) (x', y') from ⟨rfl, ?_⟩)
      unfold lexS
      rw [if_pos ex]
      rfl
  · have ex : ¬ x = x' := by simpa using e1
    refine PySem.W.kat_no (oneLt_str ⟨rfl, ?_⟩)
    show _ = lexS (x, y) (x', y')
    unfold lexS
    rw [if_neg ex]
    rfl
theorem tt_firsts {h : Heap} {k : Value → Str × Str} : ∀ {vs : List Value}, (∀ v ∈ vs, IsTT h v (k v)) →
    ∃ fs : List Value, PySem.W.KatTups h vs fs ∧ fs.length = vs.length ∧ ∀ f ∈ fs, ∃ x t, f = Value.str x t
  | [], _ => ⟨[], .nil, rfl, fun _ hm => nomatch hm⟩
  | v :: vs, hp => by
    obtain ⟨fs, h1, h2, h3⟩ := tt_firsts (vs := vs) fun v' hm => hp v' (List.mem_cons_of_mem _ hm)
    obtain ⟨a, o, t, u, n, e, ho, hc, hd⟩ := hp v (List.mem_cons_self ..)
    rw [e]
    refine ⟨.str (k v).1 t :: fs, .cons ho hc hd rfl h1, by rw [List.length_cons, h2]; rfl, fun f hm => ?_⟩
    rcases List.mem_cons.mp hm with rfl | hm
    · exact ⟨_, _, rfl⟩
    · exact h3 f hm
theorem tt_sortable {a : Addr} {vs : List Value} {k : Value → Str × Str} (h0 : 0 < vs.length) (hp : ∀ v ∈ vs, IsTT s.heap v (k v))
    (ha : ∀ o, s.heap.get? a = some o → o.cls ≠ .type "tuple") : SrtO.SortableO prog w A s a vs fun v u => lexS (k v) (k u) := by
  intro h' keep
  have hp' : ∀ v ∈ vs, IsTT h' v (k v) := fun v hm => (hp v hm).up fun b o e c => keep b o (fun z => by subst z; exact ha o e c) e
  obtain ⟨fs, h1, h2, h3⟩ := tt_firsts hp'
  refine ⟨PyProof.Rows.tuples' true, fun Q E hq => ?_, tt_cmp hp'⟩
  refine PySem.W.kat_kind (T := .type "str") h1 (by omega) (fun f hm => ?_) (by rfl) ?_
  · obtain ⟨x, t, rfl⟩ := h3 f hm
    exact PySem.W.Looks.now
  · have e : (Value.type "str" != Value.type "tuple") = true := by decide +kernel
    rw [e]
    exact hq
end
/-- sorted(xs), xs a list of pairs of texts; k says which -/
def rSrtSS (K : PySem.W.Frag) : List V → Hp → VK → Prop := fun vs H Q =>
  ∃ (a : Addr) (xs : List V) (k : V → Str × Str), vs = [.ref a] ∧ SqL K H a xs ∧
    (∀ x ∈ xs, ∃ t, x = .ref t ∧ H t = some (.tup [.str (k x).1, .str (k x).2])) ∧
    ∀ ys p, ys.Pairwise (fun x y => lexS (k y) (k x) = false) → ys.Perm xs → H p = none → Q (.ref p) (upd H p (.lst ys))
section
variable {X : Cx}
theorem cr_sortedSS : CallR X (.builtin "sorted") (rSrtSS X.K) := by
  intro pins s σ H vs us Q I r h
  obtain ⟨a, xs, k, rfl, hs, hx, q⟩ := h
  obtain ⟨its, rv, hl, hz⟩ := I.list hs
  obtain ⟨u, rfl, ru⟩ := vals1 r
  obtain rfl : u = Value.ref a := ru
  obtain ⟨e1, e2⟩ := refs_back rv fun x m => by
    obtain ⟨t, e, _⟩ := hx x m
    exact ⟨t, e⟩
  have hp : ∀ v ∈ its, IsTT s.heap v (k (backV v)) := fun v hv => by
    obtain ⟨t, rfl⟩ := e2 v hv
    have hm : V.ref t ∈ xs := by rw [e1]; exact List.mem_map.mpr ⟨_, hv, rfl⟩
    obtain ⟨t', e, ht⟩ := hx _ hm
    cases e
    obtain ⟨_, its2, r2, o, ho, hc, n, hd⟩ := I.hok _ _ ht
    obtain ⟨u1, u2, rfl, ri, rj⟩ := vals2 r2
    obtain ⟨t1, rfl⟩ := ri
    obtain ⟨t2, rfl⟩ := rj
    exact ⟨t, o, t1, t2, n, rfl, ho, hc, hd⟩
  refine SrtO.sorted_ord (swo_lexS fun u => k (backV u)) hl.isList (by rw [← rv.length]; exact hz) (fun h2 h₁ b hb kk => ?_) fun out h1 h2 => ?_
  · refine tt_sortable (s := { s with heap := h₁ }) (by omega) (fun v hm => (hp v hm).up fun b o e _ => (kk b o e).2) fun o e => ?_
    have e' : some o = _ := e.symm.trans hb
    cases e'
    intro c
    exact absurd (Value.type.inj c) (by decide)
  · have h3 : ∀ u ∈ out, ∃ a, u = Value.ref a := fun u hu => e2 u (h2.perm.mem_iff.mp hu)
    have hpm : (out.map backV).Perm xs := by rw [e1]; exact h2.perm.map _
    have hd : s.heap.objs.size ≤ s.heap.objs.size + 1 := Nat.le_succ _
    obtain ⟨n, hn⟩ := PyProof.Rows.sortedAll_at s.heap its out.toArray
    refine ⟨.ref (s.heap.objs.size + 1), upd H _ (.lst (out.map backV)), I.laid (t' := s.toks) (fun b o e => PyProof.Rows.sortedAll_old e) hd ⟨?_, out, n, vals_back h3, hn⟩, rfl, q _ _ (SrtO.srtd_map h1) hpm (I.hok.fresh hd)⟩
    rw [hpm.length_eq]
    exact hz
end
end Dk

set_option Elab.async false
set_option linter.all false
set_option maxRecDepth 100000
set_option maxHeartbeats 1000000
namespace Dk
open PySem PySem.Spec PyProof.Rows L2
open Evl (Ex)
open Py (rp)
open PyD (pic)
theorem ltCps_S (x y : Str) : ltCps x.cps.toList y.cps.toList = ltS x y := (lt_meets x y).symm
theorem rising_pw : ∀ {r : List Str} {p : Str}, risingS p r = true → (p :: r).Pairwise fun x y => ltS y x = false
  | [], p, _ => List.pairwise_singleton _ _
  | x :: r, p, h => by
    unfold risingS at h
    rw [Bool.and_eq_true, Bool.not_eq_true', ltCps_S] at h
    have ih := rising_pw h.2
    refine List.pairwise_cons.mpr ⟨fun y hy => ?_, ih⟩
    rcases List.mem_cons.mp hy with rfl | hy
    · exact h.1
    · exact ltS_tr h.1 ((List.pairwise_cons.mp ih).1 y hy)
theorem sortedS_pw {xs : List Str} (h : sortedS xs = true) : xs.Pairwise fun x y => ltS y x = false := by
  cases xs with
  | nil => exact .nil
  | cons x r => exact rising_pw h
/-- a sorted list of different texts is known by its members -/
theorem sorted_eq {xs ys : List Str} (p : xs.Perm ys) (h1 : xs.Pairwise fun x y => ltS y x = false) (h2 : ys.Pairwise fun x y => ltS y x = false) : xs = ys :=
  List.Perm.eq_of_pairwise (fun a b _ _ h h' => ltS_anti h' h) h1 h2 p
section
variable {X : Cx} {K : PySem.W.Frag}
theorem srtSSQ (h : X.K = K) : CallR X (.builtin "sorted") (rSrtSS K) := h ▸ cr_sortedSS
end
section
variable {α β γ : Type} [Py α] [Py β] [Py γ] {B : Option Addr} {O : List (Addr × HO)} {te ta tb td tl : TE} {tt : TT} {ts tz : TS} {g : TG} {σ : L2.St} {G H : Hp} {K : PySem.W.Frag} {D : Ends}
/-- the pair of texts at a place -/
def ttAt (H : Hp) : V → Str × Str
  | .ref a => match H a with
    | some (.tup [.str x, .str y]) => (x, y)
    | _ => (⟨#[]⟩, ⟨#[]⟩)
  | _ => (⟨#[]⟩, ⟨#[]⟩)
theorem ttAt_of {G : Hp} {v : V} {p : Str × Str} (h : rp G v p) : (∃ t, v = .ref t ∧ G t = some (.tup [.str p.1, .str p.2])) ∧ ttAt G v = p := by
  obtain ⟨a, x, y, rfl, ha, rx, ry⟩ := h
  cases rx; cases ry
  refine ⟨⟨a, rfl, ha⟩, ?_⟩
  unfold ttAt
  simp only [ha]
theorem tt_map {G : Hp} : ∀ {vs : List V} {xs : List (Str × Str)}, All2 G vs xs → vs.map (ttAt G) = xs
  | _, _, .nil => rfl
  | _, _, .cons r t => by rw [List.map_cons, (ttAt_of r).2, tt_map t]
theorem tt_back {G : Hp} : ∀ {ys : List V}, (∀ v ∈ ys, ∃ p : Str × Str, rp G v p) → All2 G ys (ys.map (ttAt G))
  | [], _ => .nil
  | v :: ys, h => by
    obtain ⟨p, hp⟩ := h v (List.mem_cons_self ..)
    rw [List.map_cons]
    refine .cons ?_ (tt_back fun u hu => h u (List.mem_cons_of_mem _ hu))
    rw [(ttAt_of hp).2]
    exact hp
theorem all2_memV {G : Hp} {vs : List V} {xs : List α} (h : All2 G vs xs) {v : V} (hv : v ∈ vs) : ∃ x, x ∈ xs ∧ rp G v x := by
  obtain ⟨i, hi⟩ := List.mem_iff_getElem?.mp hv
  obtain ⟨x, hx, r⟩ := all2_getV h hi
  exact ⟨x, List.mem_of_getElem? hx, r⟩
/-- sorted(xs), xs pairs of texts -/
theorem en_sortedSSP {P : List (Str × Str) → Prop} (h : EvP B O te σ G P) : EvN B O (tCB (rSrtSS K) (tCons te tNil)) σ G fun ys => ∃ xs, P xs ∧ ys.Perm xs ∧ ys.Pairwise fun p q => lexS q p = false := fun G1 H1 e s Q q =>
  h G1 H1 e s _ fun v xs G2 H2 p e2 s2 ⟨a, vs, ev, ha, ra⟩ => by
    refine ⟨a, vs, ttAt G2, by rw [ev], SqL.of (s2.ex a _ ha), fun x hx => ?_, fun ys l pw pm hl => ?_⟩
    · obtain ⟨p, _, hp⟩ := all2_memV ra hx
      obtain ⟨⟨t, e1, e2⟩, e3⟩ := ttAt_of hp
      rw [e3]
      exact ⟨t, e1, s2.ex t _ e2⟩
    · refine q l ys (ys.map (ttAt G2)) G2 _ ⟨xs, p, ?_, ?_⟩ e2 (s2.mine hl) (tt_back fun u hu => ?_)
      · rw [← tt_map ra]
        exact pm.map _
      · rw [List.pairwise_map]
        exact pw
      · obtain ⟨p, _, hp⟩ := all2_memV ra (pm.mem_iff.mp hu)
        exact ⟨p, hp⟩
theorem en_sortedSS {xs : List (Str × Str)} (h : EvD B O te σ G xs) : EvN B O (tCB (rSrtSS K) (tCons te tNil)) σ G fun ys => ys.Perm xs ∧ ys.Pairwise fun p q => lexS q p = false := (en_sortedSSP h).imp fun ys ⟨_, e, h⟩ => e ▸ h
/-- while: i counts the turns, at most n -/
theorem q_while {tc : TT} (n : Nat) (U : Word) (C : Nat → Bool → Prop) (s : Sx B O G H) (h0 : U 0 σ G O)
    (ht : ∀ i σ2 G2 O2, i ≤ n → Ex G G2 → U i σ2 G2 O2 → EvT B O2 tc σ2 G2 (C i)) (up : ∀ i σ2 G3 G2 O2, Ex G3 G2 → U i σ2 G3 O2 → U i σ2 G2 O2)
    (hb : ∀ i σ2 G2 H2 O2, i ≤ n → Ex G G2 → Sx B O2 G2 H2 → U i σ2 G2 O2 → C i true → i < n ∧ ts { D with nx := Jw B G U (i + 1), ct := Jw B G U (i + 1), bk := tz D } σ2 H2)
    (hd : ∀ i σ2 G2 H2 O2, i ≤ n → Ex G G2 → Sx B O2 G2 H2 → U i σ2 G2 O2 → C i false → tz D σ2 H2) : tSeq (tWhile tc ts) tz D σ H := by
  refine ⟨fun m σ H => ∃ i, m = n - i ∧ i ≤ n ∧ Jw B G U i σ H, ⟨n, 0, rfl, Nat.zero_le _, G, O, Ex.r, s, h0⟩, ?_⟩
  rintro m σ2 H2 ⟨i, rfl, hi, G2, O2, e2, s2, u⟩
  refine ht i σ2 G2 O2 hi e2 u G2 H2 Ex.r s2 _ fun b G3 H3 c e3 s3 => ?_
  cases b with
  | true =>
    obtain ⟨hlt, q⟩ := hb i σ2 G3 H3 O2 hi (Ex.t e2 e3) s3 (up _ _ _ _ _ e3 u) c
    exact ⟨Jw B G U (i + 1), fun σ' H' j => ⟨n - (i + 1), by omega, i + 1, rfl, hlt, j⟩, q⟩
  | false => exact hd i σ2 G3 H3 O2 hi (Ex.t e2 e3) s3 (up _ _ _ _ _ e3 u) c
end
end Dk

set_option Elab.async false
set_option linter.all false
set_option maxRecDepth 100000
set_option maxHeartbeats 1000000
namespace Dk
open PySem PySem.Spec PyProof.Rows L2
open Evl (Ex)
open Py (rp)
open PyD (pic)
/-! ### one's own list, lent for a while -/
def del (G : Hp) (l : Addr) : Hp := fun a => if a = l then none else G a
theorem del_ne {G : Hp} {l a : Addr} (h : a ≠ l) : del G l a = G a := if_neg h
theorem del_same {G : Hp} {l : Addr} : del G l l = none := if_pos rfl
section
variable {B : Option Addr} {O : List (Addr × HO)} {G G2 H H2 : Hp} {l : Addr} {vs : List V}
theorem ex_del {o : HO} (h : G l = none) (e : Ex (upd G l o) G2) : Ex G (del G2 l) := fun a u q => by
  have ne : a ≠ l := ne_of_none q h
  rw [del_ne ne]
  exact e a u (by rw [upd_ne ne]; exact q)
/-- without a bag -/
theorem Sx.thaw0 (s : Sx none O G2 H2) (h : G2 l = some (.lst vs)) : Sx none ((l, .lst vs) :: O) (del G2 l) H2 := by
  refine ⟨fun a u q => ?_, fun p hp => ?_, ?_, fun b e => nomatch e⟩
  · by_cases e : a = l
    · rw [e, del_same] at q; cases q
    · rw [del_ne e] at q; exact s.ex a u q
  · rcases List.mem_cons.mp hp with rfl | hp
    · exact ⟨s.ex l _ h, del_same⟩
    · obtain ⟨h1, h2⟩ := s.own p hp
      refine ⟨h1, ?_⟩
      by_cases e : p.1 = l
      · rw [e]; exact del_same
      · rw [del_ne e]; exact h2
  · rw [List.map_cons, List.nodup_cons]
    refine ⟨fun hm => ?_, s.nd⟩
    obtain ⟨x, hx, e⟩ := List.mem_map.mp hm
    have := (s.own x hx).2
    rw [e] at this
    rw [this] at h
    cases h
/-- the bag as an object of one's own -/
theorem Sx.bagOwn {b : Addr} (s : Sx (some b) O G H) : ∃ (z0 z1 z2 : Int) (c : Addr) (cells : List Int), 0 ≤ z2 ∧ G c = some (.lst (cells.map V.int)) ∧ Sx none ((b, .lst [.int z0, .int z1, .int z2, .ref c]) :: O) G H := by
  obtain ⟨⟨gb, z0, z1, z2, c, cells, hb, hz, hc⟩, nb⟩ := s.bag b rfl
  refine ⟨z0, z1, z2, c, cells, hz, hc, s.ex, fun p hp => ?_, ?_, fun _ e => nomatch e⟩
  · rcases List.mem_cons.mp hp with rfl | hp
    · exact ⟨hb, gb⟩
    · exact s.own p hp
  · rw [List.map_cons, List.nodup_cons]
    exact ⟨nb, s.nd⟩
theorem Sx.bagBack {b c : Addr} {z0 z1 z2 : Int} {cells : List Int} (s : Sx none ((b, .lst [.int z0, .int z1, .int z2, .ref c]) :: O) G H) (hz : 0 ≤ z2) (hc : G c = some (.lst (cells.map V.int))) : Sx (some b) O G H :=
  ⟨s.ex, s.drop.own, s.drop.nd, fun b' e => by
    cases e
    exact ⟨⟨s.head.2, z0, z1, z2, c, cells, s.head.1, hz, hc⟩, fun q => by
      obtain ⟨x, hx, e⟩ := List.mem_map.mp q
      exact s.tailNe hx e⟩⟩
end
section
variable {α β γ : Type} [Py α] [Py β] [Py γ] {B : Option Addr} {O O' : List (Addr × HO)} {te ta tb td tl : TE} {tt : TT} {ts tz : TS} {g : TG} {σ : L2.St} {G H : Hp} {K : PySem.W.Frag} {D : Ends}
/-- a list lent, a truth comes back -/
theorem ev_lendB {b l : Addr} {vs : List V} {P : Bool → Prop} (h : ∀ ob, EvP none ((b, ob) :: O) te σ (upd G l (.lst vs)) P) (hG : G l = none) : EvP (some b) ((l, .lst vs) :: O) te σ G P := fun G1 H1 e s Q q => by
  obtain ⟨z0, z1, z2, c, cells, hz, hc, s1⟩ := s.bagOwn
  obtain ⟨s2, x2⟩ := (s1.swap).freeze
  have g1 : G1 l = none := s1.swap.head.2
  have cl : c ≠ l := ne_of_none hc g1
  have e2 : Ex (upd G l (.lst vs)) (upd G1 l (.lst vs)) := ex_upd2 e
  refine h _ _ H1 e2 s2 Q fun v a G2 H2 p e3 s3 r => ?_
  have hl : G2 l = some (.lst vs) := e3 l _ upd_same
  have s4 := (s3.thaw0 hl).swap
  refine q v a (del G2 l) H2 p (ex_del g1 e3) (s4.bagBack hz (cells := cells) ?_) r
  rw [del_ne cl]
  exact e3 c _ (by rw [upd_ne cl]; exact hc)
/-- what does not speak of a list -/
class Firm (β : Type) [Py β] : Prop where
  keep : ∀ {G : Hp} {l : Addr} {vs : List V} {v : V} {x : β}, G l = some (.lst vs) → rp G v x → rp (del G l) v x
instance : Firm Str := ⟨fun _ h => h⟩
instance : Firm Int := ⟨fun _ h => h⟩
instance : Firm Bool := ⟨fun _ h => h⟩
instance [Firm α] [Firm β] : Firm (α × β) := ⟨fun {G l vs v x} hl h => by
  obtain ⟨a, p, q, h1, h2, h3, h4⟩ := h
  refine ⟨a, p, q, h1, ?_, Firm.keep hl h3, Firm.keep hl h4⟩
  rw [del_ne fun e => ?_]
  · exact h2
  · rw [e, hl] at h2
    cases h2⟩
theorem all2_keep [Firm β] {G : Hp} {l : Addr} {ws : List V} (hl : G l = some (.lst ws)) : ∀ {vs : List V} {xs : List β}, All2 G vs xs → All2 (del G l) vs xs
  | _, _, .nil => .nil
  | _, _, .cons r t => .cons (Firm.keep hl r) (all2_keep hl t)
theorem en_lend [Firm β] {b l : Addr} {vs : List V} {P : List β → Prop} (h : ∀ ob, EvN none ((b, ob) :: O) te σ (upd G l (.lst vs)) P) (hG : G l = none) : EvN (some b) ((l, .lst vs) :: O) te σ G P := fun G1 H1 e s Q q => by
  obtain ⟨z0, z1, z2, c, cells, hz, hc, s1⟩ := s.bagOwn
  obtain ⟨s2, x2⟩ := (s1.swap).freeze
  have g1 : G1 l = none := s1.swap.head.2
  have cl : c ≠ l := ne_of_none hc g1
  have e2 : Ex (upd G l (.lst vs)) (upd G1 l (.lst vs)) := ex_upd2 e
  refine h _ _ H1 e2 s2 Q fun p ws a G2 H2 hp e3 s3 r => ?_
  have hl : G2 l = some (.lst vs) := e3 l _ upd_same
  have s4 : Sx none ((b, _) :: (p, _) :: (l, _) :: O) (del G2 l) H2 := (s3.thaw0 hl).perm ((List.Perm.swap _ _ _).trans ((List.Perm.cons _ (.swap _ _ _)).trans (.swap _ _ _)))
  refine q p ws a (del G2 l) H2 hp (ex_del g1 e3) (s4.bagBack hz (cells := cells) ?_) (all2_keep hl r)
  rw [del_ne cl]
  exact e3 c _ (by rw [upd_ne cl]; exact hc)
theorem EvP.perm {P : α → Prop} (h : EvP B O te σ G P) (p : O.Perm O') : EvP B O' te σ G P := fun G1 H1 e s Q q => h G1 H1 e (s.perm p.symm) Q fun v a G2 H2 pa e2 s2 r => q v a G2 H2 pa e2 (s2.perm p) r
theorem EvN.perm {P : List α → Prop} (h : EvN B O te σ G P) (p : O.Perm O') : EvN B O' te σ G P := fun G1 H1 e s Q q => h G1 H1 e (s.perm p.symm) Q fun l ws a G2 H2 pa e2 s2 r => q l ws a G2 H2 pa e2 (s2.perm (p.cons _)) r
/-- l.reverse(), l one's own -/
theorem s_rev {i : Nat} {l : Addr} {vs : List V} (hv : σ[i]? = some (some (.ref l))) (s : Sx B ((l, .lst vs) :: O) G H) (k : ∀ H2, Sx B ((l, .lst vs.reverse) :: O) G H2 → D.nx σ H2) : tDrop (tBM K "list" rReverse (tVar i) tNil) D σ H :=
  ⟨.ref l, hv, .inl ⟨rfl, vs, SqL.of s.head.1⟩, l, vs, rfl, rfl, s.head.1, k _ s.put⟩
theorem q_rev {i : Nat} {l : Addr} {vs : List V} (hv : σ[i]? = some (some (.ref l))) (s : Sx B ((l, .lst vs) :: O) G H) (k : ∀ H2, Sx B ((l, .lst vs.reverse) :: O) G H2 → tz D σ H2) : tSeq (tDrop (tBM K "list" rReverse (tVar i) tNil)) tz D σ H := s_rev (D := { D with nx := tz D }) hv s k
theorem q_app {i : Nat} {l : Addr} {vs : List V} {P : α → Prop} (hv : σ[i]? = some (some (.ref l))) (h : EvP B ((l, .lst vs) :: O) te σ G P) (s : Sx B ((l, .lst vs) :: O) G H) (hz : vs.length ≤ 1000000)
    (k : ∀ v a G2 H2, P a → Ex G G2 → Sx B ((l, .lst (vs ++ [v])) :: O) G2 H2 → rp G2 v a → tz D σ H2) : tSeq (tDrop (tBM K "list" rAppend (tVar i) (tCons te tNil))) tz D σ H := s_app (D := { D with nx := tz D }) hv h s hz k
end
end Dk

set_option Elab.async false
set_option linter.all false
set_option maxRecDepth 100000
set_option maxHeartbeats 1000000
namespace Dk
open PySem PySem.Spec PyProof.Rows L2
open Evl (Ex)
open Py (rp)
open PyD (pic)
theorem pe_dgetQ {X : Cx} {n : Nat} {o i : Expr} {td ty : TE} {pos : Pos} (hn : X.A.units = n) (hu : n + 1 < cLine) (ho : PE X o td) (hi : PE X i ty) (hs : NoSl i) : PE X (.Subscript o i pos) (tDGet td ty) := pe_dget (hn ▸ hu) ho hi hs
theorem pe_fldQ {X : Cx} {K : PySem.W.Frag} {e : Expr} {ta : TE} {f : Str} {pos : Pos} (h : X.K = K) (he : PE X e ta) (hb : attributeBase e f X.env (eval e X.env) = eval e X.env) : PE X (.Attribute e f pos) (tFld K ta f) := h ▸ pe_fld he hb
theorem pi_listQ {X : Cx} {K : PySem.W.Frag} {tg l : Expr} {tl : TE} (h : X.K = K) (hl : PE X l tl) : PI X tg l (iList K tl) := h ▸ pi_list hl
theorem pg_tupN {X : Cx} {K : PySem.W.Frag} {n : Nat} {es : List Expr} {t : TGs} {k : Nat} {pos : Pos} (h : X.K = K) (p : PG X (.Tuple es k pos) (gTup X.K n t)) : PG X (.Tuple es k pos) (gTup K n t) := h ▸ p
/-- dict(xs), xs pairs -/
def rDct (K : PySem.W.Frag) : List V → Hp → VK → Prop := fun xs H Q =>
  ∃ (a : Addr) (ps : List Addr) (kvs : List (Key × V)), xs = [.ref a] ∧
    SqL K H a (ps.map V.ref) ∧ Paired (fun p kv => SqT K H p [kV kv.1, kv.2]) ps kvs ∧
    ∀ p, H p = none → Q (.ref p) (upd H p (.dK (mergeK [] kvs)))
theorem dctQ {X : Cx} {K : PySem.W.Frag} (h : X.K = K) (c : X.calm = true) : CallR X (.type "dict") (rDct K) := h ▸ call_dictP c
theorem merge_new : ∀ {more kvs : List (Key × V)}, ((kvs ++ more).map (·.1)).Nodup → mergeK kvs more = kvs ++ more
  | [], kvs, _ => (List.append_nil _).symm
  | kv :: more, kvs, nd => by
    have hn : valV kvs kv.1 = none := by
      rw [List.map_append, List.map_cons, List.nodup_append] at nd
      cases e : valV kvs kv.1 with
      | none => rfl
      | some v =>
        exfalso
        have h1 := valV_any kv.1 kvs
        rw [e] at h1
        obtain ⟨x, hx, hd⟩ := List.any_eq_true.mp h1
        exact nd.2.2 x.1 (List.mem_map_of_mem hx) kv.1 (List.mem_cons_self ..) (of_decide_eq_true hd)
    show mergeK (putK kvs kv.1 kv.2) more = _
    rw [putK_new kv.2 hn, merge_new (by rw [List.append_assoc]; exact nd), List.append_assoc]
    rfl
section
variable {α β γ : Type} [Py α] [Py β] [Py γ] {B : Option Addr} {O O' : List (Addr × HO)} {te ta tb td tl : TE} {tt : TT} {ts tz : TS} {g : TG} {σ : L2.St} {G H : Hp} {K : PySem.W.Frag} {D : Ends}
theorem pairs_apart {G : Hp} : ∀ {vs : List V} {xs : List (Str × β)}, All2 G vs xs → ∃ (ps : List Addr) (kvs : List (Key × V)), vs = ps.map V.ref ∧ Paired (fun p kv => G p = some (.tup [kV kv.1, kv.2])) ps kvs ∧ AllK G kvs xs
  | _, _, .nil => ⟨[], [], rfl, .nil, .nil⟩
  | _, _, .cons (b := x) r t => by
    obtain ⟨ps, kvs, h1, h2, h3⟩ := pairs_apart t
    obtain ⟨a, u, v, rfl, ha, ru, rv⟩ := r
    cases ru
    exact ⟨a :: ps, (.inr x.1, v) :: kvs, by rw [h1]; rfl, .cons ha h2, .cons ⟨rfl, rv⟩ h3⟩
theorem ev_dict {P : List (Str × β) → Prop} (h : EvP B O te σ G P) (hn : ∀ xs, P xs → (xs.map (·.1)).Nodup) : EvP B O (tCB (rDct K) (tCons te tNil)) σ G fun d : Dct β => P d.items := fun G1 H1 e s Q q =>
  h G1 H1 e s _ fun v xs G2 H2 p e2 s2 ⟨a, vs, ev, ha, ra⟩ => by
    obtain ⟨ps, kvs, h1, h2, h3⟩ := pairs_apart ra
    subst h1; subst ev
    refine ⟨a, ps, kvs, rfl, SqL.of (s2.ex a _ ha), Paired.mapP h2 fun _ _ q => SqT.of (s2.ex _ _ q), fun l hl => ?_⟩
    have hk : (([] ++ kvs : List (Key × V)).map (·.1)).Nodup := by
      rw [List.nil_append, allK_keys h3]
      have nd := hn xs p
      unfold List.Nodup at nd ⊢
      rw [List.pairwise_map]
      exact nd.imp fun ne e => ne (Sum.inr.inj e)
    rw [merge_new hk, List.nil_append]
    exact q (.ref l) ⟨xs⟩ _ _ p (Ex.t e2 (s2.grow hl)) (s2.still hl) ⟨l, kvs, rfl, upd_same, allK_up (s2.grow hl) h3⟩
/-- d[x], d any dict of such -/
theorem ev_dgetP {P : Dct β → Prop} {R : β → Prop} {x : Str} (hd : EvP B O td σ G P) (hx : EvD B O ta σ G x) (hk : ∀ d, P d → (d.items.map (·.1)).Nodup ∧ ∃ c, (x, c) ∈ d.items ∧ R c) : EvP B O (tDGet td ta) σ G R := fun G1 H1 e s Q q =>
  hd G1 H1 e s _ fun u d G2 H2 p e2 s2 rd => hx G2 H2 (Ex.t e e2) s2 _ fun v x' G3 H3 p3 e3 s3 rx => by
    have p3 : x' = x := p3
    obtain ⟨a, kvs, ev, ha, ra⟩ := Py.up e3 rd
    obtain ⟨nd, c, hc, hr⟩ := hk d p
    subst p3; subst ev; cases rx
    obtain ⟨w, hw, rw'⟩ := allK_get ra nd hc
    exact ⟨a, w, rfl, .inl ⟨kvs, .inr x', .of (s3.ex a _ ha), rfl, hw.symm⟩, q _ c G3 H3 hr (Ex.t e2 e3) s3 rw'⟩
/-- a dict of one's own: new, d[x] = e -/
theorem q_dnew {i : Nat} (s : Sx B O G H) (k : ∀ p H2, Sx B ((p, .dK []) :: O) G H2 → tz D (σ.set i (some (.ref p))) H2) : tSeq (tAsg tDNewK (gName i)) tz D σ H := fun p hp => k p _ (s.mine hp)
theorem s_dput {i : Nat} {l : Addr} {kvs : List (Key × V)} {x : Str} {P : β → Prop} (hv : σ[i]? = some (some (.ref l))) (h : EvP B ((l, .dK kvs) :: O) te σ G P) (hx : ∀ G2, Ex G G2 → EvD B ((l, .dK kvs) :: O) ta σ G2 x) (hn : valV kvs (.inr x) = none) (hz : kvs.length ≤ 1000000) (s : Sx B ((l, .dK kvs) :: O) G H)
    (k : ∀ v a G2 H2, P a → Ex G G2 → Sx B ((l, .dK (kvs ++ [(.inr x, v)])) :: O) G2 H2 → rp G2 v a → D.nx σ H2) : sDPut (tVar i) ta te D σ H :=
  h G H Ex.r s _ fun v a G2 H2 p e s2 r => ⟨_, hv, hx G2 e G2 H2 Ex.r s2 _ fun w x' G3 H3 px e3 s3 rx => by
    have px : x' = x := px
    subst px
    cases rx
    refine ⟨l, _, rfl, .inl ⟨kvs, .inr x', s3.head.1, rfl, line_lt hz, rfl⟩, ?_⟩
    rw [putK_new v hn]
    exact k v a G3 _ p (Ex.t e e3) s3.put (Py.up e3 r)⟩
/-- one's own dict from now on stands still -/
theorem Sx.restD {p : Addr} {kvs : List (Key × V)} {ps : List (Str × β)} (s : Sx B ((p, .dK kvs) :: O) G H) (r : AllK G kvs ps) : ∃ G2, Ex G G2 ∧ Sx B O G2 H ∧ rp G2 (.ref p) (Dct.mk ps) :=
  ⟨_, s.freeze.2, s.freeze.1, p, kvs, rfl, upd_same, allK_up s.freeze.2 r⟩
/-- return (e, l), l a new list of one's own -/
theorem s_retPairOwn {a : α} {P : List β → Prop} (h : EvD B O ta σ G a) (h' : EvN B O tb σ G P) (s : Sx B O G H)
    (k : ∀ t l x ws ys G2 H2, P ys → Ex G G2 → Sx B ((l, .lst ws) :: O) G2 H2 → G2 t = some (.tup [x, .ref l]) → rp G2 x a → All2 G2 ws ys → D.rt (.ref t) H2) : tRet (tTup (tCons ta (tCons tb tNil))) D σ H :=
  h G H Ex.r s _ fun v a' G1 H1 p e s1 r => h' G1 H1 e s1 _ fun l ws ys G2 H2 p2 e2 s2 r2 => ⟨line_le (by show 2 ≤ 1000000; decide), fun t ht => by
    have p : a' = a := p
    subst p
    exact k t l v ws ys (upd G2 t (.tup [v, .ref l])) _ p2 (Ex.t (Ex.t e e2) (s2.grow ht)) (s2.still ht) upd_same (Py.up (Ex.t e2 (s2.grow ht)) r) (all2_up (s2.grow ht) r2)⟩
/-- of one's own list, told by any expression -/
theorem q_revA {l : Addr} {vs : List V} (ht : At te σ H (.ref l)) (s : Sx B ((l, .lst vs) :: O) G H) (k : ∀ H2, Sx B ((l, .lst vs.reverse) :: O) G H2 → tz D σ H2) : tSeq (tDrop (tBM K "list" rReverse te tNil)) tz D σ H :=
  ht _ ⟨.inl ⟨rfl, vs, SqL.of s.head.1⟩, l, vs, rfl, rfl, s.head.1, k _ s.put⟩
theorem s_appA {l : Addr} {vs : List V} {P : α → Prop} (ht : At te σ H (.ref l)) (h : EvP B ((l, .lst vs) :: O) ta σ G P) (s : Sx B ((l, .lst vs) :: O) G H) (hz : vs.length ≤ 1000000)
    (k : ∀ v a G2 H2, P a → Ex G G2 → Sx B ((l, .lst (vs ++ [v])) :: O) G2 H2 → rp G2 v a → D.nx σ H2) : tDrop (tBM K "list" rAppend te (tCons ta tNil)) D σ H :=
  ht _ ⟨.inl ⟨rfl, vs, SqL.of s.head.1⟩, h G H Ex.r s _ fun v a G2 H2 p e s2 r => ⟨l, vs, v, rfl, rfl, s2.head.1, line_lt hz, k v a G2 _ p e s2.put r⟩⟩
theorem at_pair1 {i : Nat} {t : Addr} {x y : V} (hv : σ[i]? = some (some (.ref t))) (ht : H t = some (.tup [x, y])) : At (tOp (rIx K) (tVar i) (tC (.int 1))) σ H y := fun Q q => ⟨_, hv, .inr (.inl ⟨t, [x, y], 1, y, rfl, rfl, SqT.of ht, rfl, q⟩)⟩
/-- x, y, z = e, e', e'' -/
theorem q_unp3 {tc : TE} {i j l : Nat} {P : α → Prop} {R : β → Prop} {S : γ → Prop} (ha : EvP B O ta σ G P) (hb : EvP B O tb σ G R) (hc : EvP B O tc σ G S) (s : Sx B O G H)
    (k : ∀ x y z a b c G2 H2, P a → R b → S c → Ex G G2 → Sx B O G2 H2 → rp G2 x a → rp G2 y b → rp G2 z c → tz D (((σ.set i (some x)).set j (some y)).set l (some z)) H2) :
    tSeq (tAsg (tTup (tCons ta (tCons tb (tCons tc tNil)))) (gTup K 3 (gCons (gName i) (gCons (gName j) (gCons (gName l) gNil))))) tz D σ H :=
  ha G H Ex.r s _ fun x a G1 H1 pa e1 s1 r1 => hb G1 H1 e1 s1 _ fun y b G2 H2 pb e2 s2 r2 => hc G2 H2 (Ex.t e1 e2) s2 _ fun z c G3 H3 pc e3 s3 r3 =>
    ⟨line_le (by show 3 ≤ 1000000; decide), fun p hp => ⟨p, [x, y, z], rfl, SqT.of upd_same, rfl, x, [y, z], rfl, y, [z], rfl, z, [], rfl, rfl,
      k x y z a b c _ _ pa pb pc (Ex.t e1 (Ex.t e2 (Ex.t e3 (s3.grow hp)))) (s3.still hp) (Py.up (Ex.t e2 (Ex.t e3 (s3.grow hp))) r1) (Py.up (Ex.t e3 (s3.grow hp)) r2) (Py.up (s3.grow hp) r3)⟩⟩
end
end Dk

set_option Elab.async false
set_option linter.all false
set_option maxRecDepth 100000
set_option maxHeartbeats 1000000
namespace Dk
open PySem PySem.Spec PyProof.Rows L2
open Evl (Ex)
open Py (rp)
open PyD (pic)
/-! ### xs[:] = ys -/
section
variable {prog : Program} {w : World} {A : Around} {E : Value → Shared → Prop} {s : Shared}
theorem all_bounds (n : Nat) : sliceBounds none none none n = (((0 : Nat) : Int), (n : Int), 1) := by
  simp [sliceBounds]
/-- list.__setitem__ of a whole slice, another list put in -/
theorem setItem_whole {l b q : Addr} {old new : Array Value} {n n2 : Nat} {Q : Unit → Shared → Prop}
    (el : s.heap.get? l = some { cls := .type "list", data := .seq old n }) (eb : s.heap.get? b = some { cls := .type "list", data := .seq new n2 }) (ne : l ≠ b)
    (hq : s.heap.IsSliceOf q .none .none .none) (hsz : old.size + new.size ≤ sizeLine) (h : Q () { s with heap := s.heap.update l (Obj.mapSeq fun xs => xs.extract 0 0 ++ new ++ xs.extract old.size xs.size) }) :
    wpAny (model prog w) A (setItem (.ref l) (.ref q) (.ref b)) Q E s := by
  have il : s.heap.IsList l old := PySem.IsL.isList el
  have ib : s.heap.IsList b new := PySem.IsL.isList eb
  obtain ⟨oq, hoq, hcq, hdq⟩ := id hq
  have tq : s.TypeIs (.ref q) "slice" := ⟨oq, hoq, hcq⟩
  have nostep : ¬ ((rawPart none == rawInt 0) = true) := Bool.false_ne_true
  have apart : Builtin.List.listSameRef (.ref l) (.ref b) = false := by unfold Builtin.List.listSameRef; exact beq_eq_false_iff_ne.mpr ne
  have hmx : (max ((0 : Nat) : Int) (old.size : Int)).toNat = old.size := by omega
  have hz2 : ((fun xs : Array Value => xs.extract 0 0 ++ new ++ xs.extract old.size xs.size) old).size ≤ sizeLine + 1 := by simp only [Array.size_append, Array.size_extract]; omega
  unfold setItem
  try with_reducible refine wpAny_holding ?_
  first | refine wpAny_bind (wpAny_pure ?_) | skip
  refine wpAny_bind (wpAny_sequenceKey il.typeIs (by decide) ?_)
  refine wpAny_bind (wpAny_callSpecial?_slot (name := Str.ofString "__setitem__") il.typeIs slot_list_setitem (wpAny_call_entry slot_list_setitem il.typeIs entry_list_setitem ?_ (args_list_setitem _ _ _)))
  show wpAny _ _ (Builtin.List.listSubscript? (.ref q) >>= _) _ _ s
  refine wpAny_bind ?_
  unfold Builtin.List.listSubscript?
  refine wpAny_bind (wpAny_specialOf tq slice_no_index ?_)
  simp only [Option.isNone_none, if_true]
  refine wpAny_pure ?_
  show wpAny _ _ (typeOf (.ref q) >>= _) _ _ s
  refine wpAny_bind (wpAny_typeOf tq ?_)
  first
    | rw [if_neg (by decide)]
    | refine PySem.W.KFB.if_not (by decide) ?_
  rw [listSliceParts_eq]
  refine wpAny_bind (wpAny_bind (wpAny_field hoq hdq (x := .none) rfl (wpAny_bind (wpAny_listPart .none ?_))))
  rw [if_neg nostep]
  refine wpAny_bind (wpAny_field hoq hdq (x := .none) rfl (wpAny_bind (wpAny_listPart .none ?_)))
  refine wpAny_bind (wpAny_field hoq hdq (x := .none) rfl (wpAny_bind (wpAny_listPart .none (wpAny_pure ?_))))
  first
    | simp only [apart, Bool.false_eq_true, if_false]
    | refine PySem.W.KFB.if_not apart ?_
    | (dsimp only; rw [if_neg (by rw [apart]; exact Bool.false_ne_true)])
  refine wpAny_bind (m := Builtin.List.listAllItems (.ref b) "must assign iterable to extended slice") ?_
  unfold Builtin.List.listAllItems
  refine wpAny_bind (wpAny_typeOf ib.typeIs ?_)
  first
    | refine PySem.W.KFB.if_so (by decide) ?_
    | rw [if_pos (by decide)]
    | simp only [beq_self_eq_true, Bool.true_or, if_true]
  unfold Builtin.List.listItems
  refine wpAny_bind (wpAny_seqItems eb rfl (wpAny_pure ?_))
  refine wpAny_bind (wpAny_bind (wpAny_seqItems el rfl (wpAny_pure ?_)))
  refine wpAny_bind (wpAny_of_eq ((sliceIndices_raw none none none old.size (by simp)).trans (congrArg (pure : Int × Int × Int → Sem (Int × Int × Int)) (all_bounds old.size))) ?_)
  show wpAny _ _ (if ((1 : Int) == 1) = true then _ else _) _ _ s
  rw [if_pos (by decide)]
  refine wpAny_bind (wpAny_rule ?_)
  first
    | simp only [notLongL hsz, Bool.false_eq_true, if_false]
    | refine PySem.W.KFB.if_not (notLongL hsz) ?_
  first | refine wpAny_bind (wpAny_pure ?_) | skip
  show wpAny _ _ (updateSeq l (fun xs => xs.extract 0 (((0 : Nat) : Int)).toNat ++ new ++ xs.extract (max ((0 : Nat) : Int) (old.size : Int)).toNat xs.size) >>= _) _ _ s
  rw [hmx, Int.toNat_natCast]
  refine wpAny_bind (wpAny_updateSeq (hz := Nat.le_trans (Nat.le_add_right _ _) hsz) (_hz' := hz2) el rfl ?_)
  refine wpAny_bind (wpAny_letGo ?_)
  first
    | exact wpAny_bind (wpAny_pure (wpAny_pure ⟨.none, rfl, wpAny_pure h⟩))
    | exact wpAny_pure ⟨.none, rfl, wpAny_pure h⟩
end
section
variable {X : Cx} {o : Expr} {to : TE} {p2 pos : Pos}
def gWhole (to : TE) : TG := fun v σ H Q => to σ H fun x H1 => ∃ l b xs ys, x = .ref l ∧ v = .ref b ∧ H1 l = some (.lst xs) ∧ H1 b = some (.lst ys) ∧ l ≠ b ∧ xs.length + ys.length ≤ sizeLine ∧ Q σ (upd H1 l (.lst ys))
theorem pg_whole (ho : PE X o to) : PG X (.Subscript o (.Slice none none none p2) pos) (gWhole to) := by
  refine ⟨fun pins s σ H v u Q I r h => ?_⟩
  rw [arm_assign_Subscript]
  refine wpAny_bind (wpAny_holding (thn (ho.run pins s σ H _ I h) fun ov s1 ⟨x, H1, I1, r1, q1⟩ => ?_))
  obtain ⟨l, b, xs, ys, rfl, rfl, hl, hb, ne, hz, q⟩ := q1
  cases r1
  cases r
  refine wpAny_bind (wpAny_holding (wpAny_Slice ?_))
  rw [evalPart_none]
  refine wpAny_pure (wpAny_pure (wpAny_pure ?_))
  have I2 : Inv X pins σ H1 { s1 with heap := s1.heap.push { cls := .type "slice", data := .fields #[.none, .none, .none] } } := I1.kept (t' := s1.toks) fun b ob q => Heap.get?_push_of_some _ q
  refine wpAny_bind (wpAny_standAt (wpAny_bind (wpAny_holding ?_)))
  obtain ⟨z, its, n, r, hln, e⟩ := I2.lstM hl
  obtain ⟨z2, its2, n2, r2, hln2, e2⟩ := I2.lstM hb
  refine setItem_whole e e2 ne (Heap.IsSliceOf.new _ _ _ _) (by rw [List.size_toArray, List.size_toArray]; omega) (wpAny_release ⟨σ, _, ?_, q⟩)
  refine I2.lset (its' := its2) (t' := s1.toks) hl e ?_ r2 z2
  simp
end
/-! ### x or y of lists -/
section
variable {α β γ : Type} [Py α] [Py β] [Py γ] {B : Option Addr} {O O' : List (Addr × HO)} {te ta tb td tl : TE} {tt : TT} {ts tz : TS} {g : TG} {σ : L2.St} {G H : Hp} {K : PySem.W.Frag} {D : Ends}
theorem pe_orQ {X : Cx} {a b : Expr} {rest : List Expr} {pos : Pos} (h : X.K = K) (ha : PE X a ta) (hb : PE X (.BoolOp .Or (b :: rest) pos) tb) : PE X (.BoolOp .Or (a :: b :: rest) pos) (tOrT K ta tb) := h ▸ pe_orT ha hb
theorem ev_orL {P R : List α → Prop} (h : EvP B O ta σ G P) (h' : EvP B O tb σ G R) : EvP B O (tOrT K ta tb) σ G fun l => (P l ∧ l ≠ []) ∨ (P [] ∧ R l) := fun G1 H1 e s Q q =>
  h G1 H1 e s _ fun v xs G2 H2 p e2 s2 rv => by
    obtain ⟨a, vs, ev, ha, ra⟩ := id rv
    refine ⟨!vs.isEmpty, by rw [ev]; exact .inl ⟨vs, SqL.of (s2.ex a _ ha), rfl⟩, ?_⟩
    cases ra with
    | nil => exact h' G2 H2 (Ex.t e e2) s2 _ fun w ys G3 H3 p3 e3 s3 rw => q w ys G3 H3 (.inr ⟨p, p3⟩) (Ex.t e2 e3) s3 rw
    | cons x t => exact q v _ G2 H2 (.inl ⟨p, by simp⟩) e2 s2 rv
/-- x, l = e, a new list of one's own -/
theorem q_unpOwn {i j : Nat} {P : α → Prop} {R : List β → Prop} (h : EvP B O ta σ G P) (h' : EvN B O tb σ G R) (s : Sx B O G H)
    (k : ∀ x l a ws ys G2 H2, P a → R ys → Ex G G2 → Sx B ((l, .lst ws) :: O) G2 H2 → rp G2 x a → All2 G2 ws ys → tz D ((σ.set i (some x)).set j (some (.ref l))) H2) :
    tSeq (tAsg (tTup (tCons ta (tCons tb tNil))) (gTup K 2 (gCons (gName i) (gCons (gName j) gNil)))) tz D σ H :=
  h G H Ex.r s _ fun v a G1 H1 p e s1 r => h' G1 H1 e s1 _ fun l ws ys G2 H2 p2 e2 s2 r2 => ⟨line_le (by show 2 ≤ 1000000; decide), fun t ht =>
    ⟨t, [v, .ref l], rfl, SqT.of upd_same, rfl, v, [.ref l], rfl, .ref l, [], rfl, rfl, k v l a ws ys _ _ p p2 (Ex.t (Ex.t e e2) (s2.grow ht)) (s2.still ht) (Py.up (Ex.t e2 (s2.grow ht)) r) (all2_up (s2.grow ht) r2)⟩⟩
/-- l[:] = e, l one's own and at the head, e a new list -/
theorem q_whole {i : Nat} {l : Addr} {vs : List V} {P : List α → Prop} (hv : σ[i]? = some (some (.ref l))) (h : EvN B ((l, .lst vs) :: O) te σ G P) (s : Sx B ((l, .lst vs) :: O) G H) (hz : vs.length ≤ 1000000) (hy : ∀ ys, P ys → ys.length ≤ 1000000)
    (k : ∀ ws ys G2 H2, P ys → Ex G G2 → Sx B ((l, .lst ws) :: O) G2 H2 → All2 G2 ws ys → tz D σ H2) : tSeq (tAsg te (gWhole (tVar i))) tz D σ H :=
  h G H Ex.r s _ fun b ws ys G2 H2 p e2 s2 r2 => by
    have hl := s2.swap.head.1
    have hb := s2.head.1
    have ne : l ≠ b := s2.tailNe (q := (l, .lst vs)) (by simp)
    have hlen := all2_len r2
    have hyy := hy ys p
    exact ⟨.ref l, hv, l, b, vs, ws, rfl, rfl, hl, hb, ne, Nat.le_trans (by omega : vs.length + ws.length ≤ 2000000) (by decide), k ws ys G2 _ p e2 (s2.swap.put (o' := .lst ws)).swap.drop r2⟩
end
end Dk

set_option Elab.async false
set_option linter.all false
set_option maxRecDepth 100000
set_option maxHeartbeats 3200000
namespace Dk
open PySem PySem.Spec PyProof.Rows L2
open Evl (Ex)
open Py (rp)
/-! ### a set of texts: l its members -/
def keyT (e : Int × Value) : Str := match e.2 with | .str x _ => x | _ => ⟨#[]⟩
def GoodT (w : World) (e : Int × Value) : Prop := ∃ x tk, e.2 = Value.str x tk ∧ e.1 = hashStr w x
def TxtSet (w : World) (h : Heap) (a : Addr) (l : List Str) : Prop :=
  ∃ o es ep t, h.get? a = some o ∧ o.ExactSet ∧ o.data = .set es ep t ∧ (∀ e ∈ es.toList, GoodT w e) ∧ (es.toList.map keyT).Perm l ∧ l.Nodup ∧
    es.size < scanBound ∧ t.fits es.size = true ∧ Ris t.place.toList ∧ (w.params.followText "set-order" = true ∨ t.led = true)
def putT (l : List Str) (x : Str) : List Str := if x ∈ l then l else l ++ [x]
theorem putT_len (l : List Str) (x : Str) : (putT l x).length ≤ l.length + 1 := by unfold putT; split <;> simp
theorem putT_mem {l : List Str} {x y : Str} : y ∈ putT l x ↔ y ∈ l ∨ y = x := by
  unfold putT
  split
  · rename_i h
    exact ⟨.inl, fun q => q.elim id fun e => e ▸ h⟩
  · simp
section
variable {P : Program} {w : World} {h h' : Heap} {a : Addr} {l : List Str}
theorem TxtSet.up (R : TxtSet w h a l) (k : ∀ o, h.get? a = some o → h'.get? a = some o) : TxtSet w h' a l := by
  obtain ⟨o, es, ep, t, ho, r⟩ := R
  exact ⟨o, es, ep, t, k o ho, r⟩
theorem goodT_is {e : Int × Value} (g : GoodT w e) (x : Str) : (PySem.strKind P w).is x e.2 = true ↔ keyT e = x := by
  obtain ⟨y, tk, h1, _⟩ := g
  unfold keyT
  rw [h1]
  show ((y == x) = true) ↔ y = x
  exact beq_iff_eq
theorem goodT_elems {es : List (Int × Value)} (g : ∀ e ∈ es, GoodT w e) : ElemsOf (PySem.strKind P w) es := fun e he => by
  obtain ⟨x, tk, h1, h2⟩ := g e he
  exact ⟨⟨x, by rw [h1]; exact PySem.strKind_is P w x tk, h2⟩, by rw [h1] <;> rfl⟩
theorem goodT_mem {es : List (Int × Value)} (g : ∀ e ∈ es, GoodT w e) (x : Str) : x ∈ es.map keyT ↔ ∃ e ∈ es, (PySem.strKind P w).is x e.2 = true := by
  rw [List.mem_map]
  exact ⟨fun ⟨e, he, q⟩ => ⟨e, he, (goodT_is (g e he) x).2 q⟩, fun ⟨e, he, q⟩ => ⟨e, he, (goodT_is (g e he) x).1 q⟩⟩
theorem TxtSet.setOf (R : TxtSet w h a l) : h.SetOf (PySem.strKind P w) a (fun x => decide (x ∈ l)) l.length := by
  obtain ⟨o, es, ep, t, ho, hx, hd, g, pm, nd, hb, hf, _⟩ := R
  refine ⟨o, es, ep, t, ho, hx, hd, goodT_elems g, fun x => ?_, hb, hf, ?_⟩
  · rw [decide_eq_true_eq, ← pm.mem_iff]
    exact goodT_mem g x
  · rw [← pm.length_eq, List.length_map, Array.length_toList]
end
section
variable {P : Program} {w : World} {A : Around} {E : Value → Shared → Prop} {s : Shared} {a : Addr} {l : List Str}
theorem tset_tail {g : Bool → Sem Unit} (hg : ∀ (b : Bool) (s₁ : Shared) (Q' : Unit → Shared → Prop), Q' () s₁ → wpAny (model P w) A (g b) Q' E s₁)
    {o : Obj} {es : Array (Int × Value)} {ep : Nat} {t : SetTable} (ho : s.heap.get? a = some o) (hex : o.ExactSet) (hd : o.data = .set es ep t)
    {es1 : Array (Int × Value)} {t2 : SetTable} {l' : List Str} (g1 : ∀ e ∈ es1.toList, GoodT w e) (pm1 : (es1.toList.map keyT).Perm l') (nd1 : l'.Nodup)
    (hb1 : es1.size < scanBound) (hf2 : t2.fits es1.size = true) (hr : Ris t2.place.toList) (hl : w.params.followText "set-order" = true ∨ t2.led = true) {wasDummy : Bool} {R : Option Bool → Shared → Prop}
    (hR : ∀ h', Heap.SameBut a s.heap h' → TxtSet w h' a l' → R (some true) { s with heap := h' }) :
    wpAny (model P w) A (do
        storeSet a es1 t2
        if (!wasDummy && t2.tooFull) = true then do
            g (relayAll t2 es1 (SetTable.grown es1.size)).2.2
            storeSet a (relayAll t2 es1 (SetTable.grown es1.size)).1 (relayAll t2 es1 (SetTable.grown es1.size)).2.1
            pure (some true)
          else pure (some true)) R E s := by
  refine wpAny_bind (wpAny_storeSet_of ho hd ?_ (fits_of_scanBound hb1))
  have ho1 := PpSet.storeB_at (es' := es1) (t' := t2) ho hd
  have sb1 := Heap.SameBut.update s.heap a (Obj.putSet es1 t2)
  split
  · have pm := relayAll_perm t2 es1 (SetTable.grown es1.size)
    have q1 := relayAll_fits t2 es1 (SetTable.grown es1.size)
    have q2 := relayAll_ris t2 es1 (SetTable.grown es1.size)
    have q3 := relayAll_led t2 es1 (SetTable.grown es1.size)
    generalize relayAll t2 es1 (SetTable.grown es1.size) = Z at pm q1 q2 q3 ⊢
    obtain ⟨es2, t3, gave⟩ := Z
    dsimp only at pm q1 q2 q3 ⊢
    have hz : es2.size = es1.size := by rw [← Array.length_toList, pm.length_eq, Array.length_toList]
    have hb2 : es2.size < scanBound := by rw [hz]; exact hb1
    refine wpAny_bind (hg _ _ _ ?_)
    refine wpAny_bind (wpAny_storeSet_of ho1 rfl ?_ (fits_of_scanBound hb2))
    have ho2 := PpSet.storeB_at (es' := es2) (t' := t3) ho1 rfl
    refine wpAny_pure (hR _ (sb1.trans (Heap.SameBut.update _ a _)) ⟨_, es2, _, t3, ho2, hex, rfl, fun e he => g1 e (pm.mem_iff.mp he), (pm.map keyT).trans pm1, nd1, hb2, ?_, q2, hl.imp id fun z => by rw [q3]; exact z⟩)
    exact q1
  · exact wpAny_pure (hR _ sb1 ⟨_, es1, _, t2, ho1, hex, rfl, g1, pm1, nd1, hb1, hf2, hr, hl⟩)
theorem tset_hashed {x : Str} {tk : Tok} {Q : Bool → Shared → Prop} (R : TxtSet w s.heap a l) (room : l.length + 1 < scanBound)
    (hQ : ∀ h', Heap.SameBut a s.heap h' → TxtSet w h' a (putT l x) → Q (!decide (x ∈ l)) { s with heap := h' }) :
    wpAny (model P w) A (setAddHashed a (.str x tk) ((PySem.strKind P w).hash x)) Q E s := by
  obtain ⟨o, es, ep, t, ho, hex, hd, g, pml, nd, hb, hf, hr, hl⟩ := R
  have hkey : (PySem.strKind P w).is x (.str x tk) = true := PySem.strKind_is P w x tk
  have hsc : (Value.str x tk).scannable = true := rfl
  have hel : ElemsOf (PySem.strKind P w) es.toList := goodT_elems g
  unfold setAddHashed setAddHashedIn
  refine wpAny_holding (wpAny_bind (wpAny_setState_of ho hd hf ?_))
  dsimp only
  rw [byScan_of hsc hb hel]
  simp only [↓reduceIte]
  unfold setAddByScan
  refine wpAny_bind ?_
  refine wpAny_bind (wpAny_rule ?_)
  refine wpAny_bind (wpAny_setScan_of hkey ho hd hf hel ?_)
  cases hfi : List.findIdx? (fun e => (PySem.strKind P w).is x e.2) es.toList with
  | some j =>
    dsimp only
    obtain ⟨hj, pj, _⟩ := List.findIdx?_eq_some_iff_getElem.mp hfi
    have hx : x ∈ l := pml.mem_iff.mp ((goodT_mem (P := P) (w := w) g x).2 ⟨es.toList[j], List.getElem_mem hj, pj⟩)
    refine wpAny_pure (wpAny_pure ?_)
    have q := hQ s.heap (Heap.SameBut.refl a s.heap) ⟨o, es, ep, t, ho, hex, hd, g, by unfold putT; rw [if_pos hx]; exact pml, by unfold putT; rw [if_pos hx]; exact nd, hb, hf, hr, hl⟩
    rw [decide_eq_true hx] at q
    exact q
  | none =>
    dsimp only
    have hnx : x ∉ l := fun z => by
      obtain ⟨e, he, q⟩ := (goodT_mem (P := P) (w := w) g x).1 (pml.mem_iff.mpr z)
      have c := List.findIdx?_eq_none_iff.mp hfi e he
      rw [q] at c
      cases c
    have hgw : ∀ (b : Bool) {s₁ : Shared} {Q' : Unit → Shared → Prop}, Q' () s₁ → wpAny (model P w) A (match b with | true => rule "set.scan.the-table-gave-way" | false => pure ()) Q' E s₁ := fun b s₁ Q' q => by cases b <;> first | exact wpAny_pure q | exact wpAny_rule q
    have pm := layNew_perm t es ((PySem.strKind P w).hash x) (.str x tk)
    have q1 := layNew_fits t es ((PySem.strKind P w).hash x) (.str x tk)
    have q2 := layNew_ris t es ((PySem.strKind P w).hash x) (.str x tk) hr
    have q3 := layNew_led t es ((PySem.strKind P w).hash x) (.str x tk)
    generalize layNew t es ((PySem.strKind P w).hash x) (.str x tk) = Z at pm q1 q2 q3 ⊢
    obtain ⟨es1, t1, wasDummy, gave⟩ := Z
    dsimp only at pm q1 q2 q3 ⊢
    rw [Array.toList_push] at pm
    have pc : es1.toList.Perm (es.toList ++ [((PySem.strKind P w).hash x, Value.str x tk)]) := pm
    have pk : (es1.toList.map keyT).Perm (l ++ [x]) := by
      have z := pc.map keyT
      rw [List.map_append] at z
      exact z.trans (pml.append_right [x])
    have g1 : ∀ e ∈ es1.toList, GoodT w e := fun e he => by
      rcases List.mem_append.mp (pc.mem_iff.mp he) with z | z
      · exact g e z
      · rw [List.mem_singleton.mp z]; exact ⟨x, tk, rfl, rfl⟩
    have nd1 : (l ++ [x]).Nodup := List.nodup_append.mpr ⟨nd, by simp, fun y hy z hz e => hnx (by rw [List.mem_singleton.mp hz] at e; rw [← e]; exact hy)⟩
    have hz : es1.size = l.length + 1 := by rw [← Array.length_toList, ← List.length_map (f := keyT), pk.length_eq, List.length_append]; rfl
    have hb1 : es1.size < scanBound := by rw [hz]; exact room
    have hled : w.params.followText "set-order" = true ∨ t1.led = true := hl.imp id fun z => by rw [q3]; exact z
    have fin : ∀ h', Heap.SameBut a s.heap h' → TxtSet w h' a (l ++ [x]) → Q true { s with heap := h' } := fun h' sb r => by
      have q := hQ h' sb (by unfold putT; rw [if_neg hnx]; exact r)
      rw [decide_eq_false hnx] at q
      exact q
    refine wpAny_bind (hgw _ ?_)
    split
    · refine wpAny_bind ?_
      rw [hashByValue_scannable 8 hsc]
      refine wpAny_pure ?_
      refine tset_tail ?_ ho hex hd g1 pk nd1 hb1 ?_ ?_ ?_ ?_
      · intro b s₁ Q' q; cases b <;> first | exact wpAny_pure q | exact wpAny_rule q
      · first | (split <;> first | exact q1 | exact SetTable.fits_plain_off q1) | exact q1
      · first | (split <;> exact q2) | exact q2
      · first | (split <;> exact hled) | exact hled
      · intro h' sb r; dsimp only; exact wpAny_pure (fin h' sb r)
    · refine wpAny_bind (wpAny_pure ?_)
      simp only [↓reduceIte]
      refine tset_tail ?_ ho hex hd g1 pk nd1 hb1 q1 q2 hled ?_
      · intro b s₁ Q' q; cases b <;> first | exact wpAny_pure q | exact wpAny_rule q
      · intro h' sb r; dsimp only; exact wpAny_pure (fin h' sb r)
theorem tset_add {x : Str} {tk : Tok} {Q : Value → Shared → Prop} (R : TxtSet w s.heap a l) (room : l.length + 1 < scanBound)
    (hQ : ∀ h', Heap.SameBut a s.heap h' → TxtSet w h' a (putT l x) → Q .none { s with heap := h', toks := s.toks + 1 }) :
    wpAny (model P w) A (call (.builtin "set.add") [.ref a, .str x tk]) Q E s := by
  have hS : s.heap.SetOf (PySem.strKind P w) a (fun x => decide (x ∈ l)) l.length := R.setOf
  refine wpAny_call_entry F.slot_set_add hS.typeIs F.entry_set_add ?_ (F.args_set_add_2 _ _)
  unfold Builtin.«set.add» Builtin.Frozenset.oneOther
  simp only [List.isEmpty_nil, bind_assoc]
  unfold Builtin.Frozenset.addrOf setAdd
  refine wpAny_bind (wpAny_pure ?_)
  try dsimp only
  refine wpAny_bind (wpAny_pure ?_)
  try dsimp only
  refine wpAny_bind ?_
  refine wpAny_holding ?_
  refine wpAny_bind ((PySem.strKind P w).pyHash (PySem.strKind_is P w x tk) ?_)
  refine tset_hashed (s := { s with toks := s.toks + 1 }) R room fun h' sb r => ?_
  show wpAny _ _ (ret Value.none) _ _ _
  exact wpAny_pure ⟨_, rfl, hQ h' sb r⟩
theorem tset_fresh {h : Heap} (w : World) (ho : h.get? a = some { cls := .type "set", dict := none, data := .set #[] 0 (.fresh 0 0 (!w.params.followText "set-order")) }) : TxtSet w h a [] :=
  ⟨_, #[], 0, _, ho, ⟨rfl, rfl, rfl⟩, rfl, (fun e he => by simp at he), by simp, List.nodup_nil, by decide, by rfl, List.Pairwise.nil, by
    show _ ∨ (!w.params.followText "set-order") = true
    cases w.params.followText "set-order" <;> simp⟩
end
def ddT (xs : List Str) : List Str := xs.foldl putT []
theorem ddT_snoc (xs : List Str) (x : Str) : ddT (xs ++ [x]) = putT (ddT xs) x := by unfold ddT; rw [List.foldl_append]; rfl
theorem foldl_putT_mem (xs : List Str) : ∀ {l : List Str} {y : Str}, y ∈ xs.foldl putT l ↔ y ∈ l ∨ y ∈ xs := by
  induction xs with
  | nil => intro l y; simp
  | cons x r ih =>
    intro l y
    rw [List.foldl_cons, ih, putT_mem, List.mem_cons]
    exact or_assoc
theorem ddT_mem {xs : List Str} {y : Str} : y ∈ ddT xs ↔ y ∈ xs := by unfold ddT; rw [foldl_putT_mem]; simp
theorem foldl_putT_nd (xs : List Str) : ∀ {l : List Str}, l.Nodup → (xs.foldl putT l).Nodup := by
  induction xs with
  | nil => exact fun h => h
  | cons x r ih =>
    intro l h
    refine ih ?_
    unfold putT
    split
    · exact h
    · rename_i hn
      exact List.nodup_append.mpr ⟨h, by simp, fun y hy z hz e => hn (by rw [List.mem_singleton.mp hz] at e; rw [← e]; exact hy)⟩
theorem ddT_nd (xs : List Str) : (ddT xs).Nodup := foldl_putT_nd xs List.nodup_nil
theorem foldl_putT_len (xs : List Str) : ∀ l : List Str, (xs.foldl putT l).length ≤ l.length + xs.length := by
  induction xs with
  | nil => intro l; simp
  | cons x r ih =>
    intro l
    have := ih (putT l x)
    have := putT_len l x
    rw [List.foldl_cons, List.length_cons]
    omega
theorem ddT_len (xs : List Str) : (ddT xs).length ≤ xs.length := by
  have := foldl_putT_len xs []
  simpa [ddT] using this
section
variable {P : Program} {w : World} {A : Around} {E : Value → Shared → Prop} {s : Shared}
theorem tset_update {I : Addr} {fp wr : List Addr} {Gs : Array GenState → Array GenState → Prop} {n : Nat} {Pv : Nat → Value → Prop} {St : Nat → Shared → Prop} {R : Result → Shared → Prop}
    (W : WalksS P w A.in1 I fp wr Gs n Pv St) (S : Addr) (hSf : S ∉ fp) (xs : List Str) (hn : n = xs.length) (hb : xs.length + 1 < scanBound) (hval : ∀ i v, Pv i v → ∃ x t, xs[i]? = some x ∧ v = .str x t) :
    ∀ (k i : Nat) (s : Shared), n - i = k → i ≤ n → St i s → TxtSet w s.heap S (ddT (xs.take i)) →
      (∀ s', Moved (S :: wr) Gs s s' → TxtSet w s'.heap S (ddT xs) → R (.ok (.ret .none)) s') →
      codeAny (model P w) A (.builtin "set.update.loop" ⟨[.ref S, .ref I], []⟩) R s := by
  have away : S ∉ wr := fun h => hSf (W.sub _ h)
  have more : ∀ b ∈ wr, b ∈ S :: wr := fun b hb => List.mem_cons_of_mem _ hb
  intro k
  induction k with
  | zero =>
    intro i s hk hi hst hS hR
    obtain rfl : i = n := by omega
    refine codeAny_builtin F.entry_set_update_loop ?_
    rw [Around.under_plainId F.plain_set_update_loop _]
    show wpAny _ A.in1 (pyNext (.ref I) >>= _) _ _ s
    refine wpAny_bind (W.done s _ _ hst fun s' hm => ?_)
    show wpAny _ A.in1 (ret Value.none) _ _ s'
    rw [List.take_of_length_le (by omega)] at hS
    exact wpAny_pure (hR s' (hm.mono more) (hS.up fun o e => hm.heap S o away e))
  | succ k ih =>
    intro i s hk hi hst hS hR
    refine codeAny_builtin F.entry_set_update_loop ?_
    rw [Around.under_plainId F.plain_set_update_loop _]
    show wpAny _ A.in1 (pyNext (.ref I) >>= _) _ _ s
    refine wpAny_bind (W.item i s _ _ (by omega) hst fun v s' hP hst' hm => ?_)
    obtain ⟨x, t, hx, rfl⟩ := hval i v hP
    have hS' : TxtSet w s'.heap S (ddT (xs.take i)) := hS.up fun o e => hm.heap S o away e
    show wpAny _ A.in1 (holding [Value.str x t] (setAdd S (.str x t)) >>= _) _ _ s'
    refine wpAny_bind (wpAny_holding ?_)
    unfold setAdd
    refine wpAny_holding ?_
    refine wpAny_bind ((PySem.strKind P w).pyHash (k := x) (PySem.strKind_is _ _ _ _) ?_)
    have hlen := ddT_len (xs.take i)
    have hlen2 : (xs.take i).length ≤ xs.length := by rw [List.length_take]; omega
    refine tset_hashed (s := { s' with toks := s'.toks + 1 }) hS' (by omega) fun h' same hS2 => ?_
    have hS3 : TxtSet w h' S (ddT (xs.take (i + 1))) := by rw [take_snoc hx, ddT_snoc]; exact hS2
    refine wpAny_pure ⟨plainId_quiet F.plain_set_update_loop _, ih (i + 1) _ (by omega) (by omega) (W.frame _ s' _ _ hst' (Nat.le_succ _) fun b hb o e => ?_) hS3 fun s'' hm2 hS'' => ?_⟩
    · rw [same.2 b (fun q : b = S => hSf (q ▸ hb))]; exact e
    · refine hR s'' (Moved.trans W.gtrans ((hm.mono more).then_heap (Nat.le_succ _) fun b o hb e => ?_) hm2) hS''
      rw [same.2 b (fun q : b = S => hb (by rw [q]; exact List.mem_cons_self))]; exact e
theorem call_setT {la : Addr} {items : Array Value} (xs : List Str) {Q : Value → Shared → Prop} (hh : A.handled = none) (hl : s.heap.IsList la items) (hi : StrsAre items.toList xs) (hb : xs.length + 1 < scanBound)
    (h : ∀ (h' : Heap) (tk : Nat), TxtSet w h' s.heap.objs.size (ddT xs) → (∀ b o, s.heap.get? b = some o → h'.get? b = some o) → Q (.ref s.heap.objs.size) { s with heap := h', toks := tk }) :
    wpAny (model P w) A (call (.type "set") [.ref la]) Q E s := by
  have hsz : items.size = xs.length := by have q := StrsAre.len_eq hi; rw [Array.length_toList] at q; exact q
  obtain ⟨c, tl, hmro⟩ := F.called_set.mro
  have hmade := F.called_set.made
  have hsub := F.called_set.sub
  refine wpAny_call (codeAny_of_tree ?_)
  show wpAny _ _ (callAny (.type "set") _) _ _ _
  refine wpAny_pure ⟨Code.quiet_builtin _ (by decide +kernel), codeAny_builtin F.entry_type_call ?_⟩
  rw [Around.under_plain (weight_type_call_type "set" [.ref la] []) rfl]
  have h1 := F.called_set.notType
  have h2 := F.called_set.canCreate
  have hct := F.typeCall_set_1 (.ref la)
  repeat (any_goals (first | assumption | wp_step))
  generalize hne : ({ cls := .type "set", dict := none, data := .set #[] 0 (.fresh 0 0 (!w.params.followText "set-order")) } : Obj) = ob
  refine codeAny_mono (code_set_led1 (.ref la) (E := E) (Q₁ := fun obj s₁ => obj = .ref s.heap.objs.size ∧ s₁ = { s with heap := s.heap.push ob }) ⟨rfl, by rw [← hne]⟩) fun r s₁ hr => ?_
  cases r with
  | error e => exact hr
  | ok fl =>
    cases fl with
    | ret obj =>
      obtain ⟨rfl, rfl⟩ := hr
      have hS : (s.heap.push ob).get? s.heap.objs.size = some ob := Heap.get?_push_size _ (by rw [← hne] <;> rfl)
      have hT : Shared.TypeIs { s with heap := s.heap.push ob } (.ref s.heap.objs.size) "set" := ⟨_, hS, by rw [← hne]⟩
      have hli := F.called_set.init.lookup
      have hbi := F.called_set.init.bind (.ref s.heap.objs.size)
      repeat (any_goals (first | assumption | wp_step))
      refine codeAny_mono (codeAny_call_builtin (R := wants (fun r s₂ => r = .none ∧ ∃ h' tk, s₂ = { s with heap := h', toks := tk } ∧ TxtSet w h' s.heap.objs.size (ddT xs) ∧
          (∀ b o, s.heap.get? b = some o → h'.get? b = some o)) E) F.called_set.init.plain F.entry_set_init (check_set_init_1 hT ?_)) fun r₂ s₂ hr₂ => ?_
      · obtain ⟨⟨ocls, odict, odata, oslots⟩, hol, hcl, nl, hdl⟩ := hl
        simp only at hcl hdl
        subst hcl; subst hdl
        have hol' : (s.heap.push ob).get? la = some { cls := .type "list", dict := odict, data := .seq items nl, slots := oslots } := Heap.get?_push_of_some _ hol
        have hsls := F.sub_list_set
        have hslf := F.sub_list_frozenset
        have hnd : (Value.type "list" == Value.type "dict") = false := by decide
        have hl1 : (s.heap.push ob).IsList la items := ⟨_, hol', rfl, nl, rfl⟩
        subst hne
        unfold Builtin.«set.__init__» noKeywords Builtin.Frozenset.updateFrom
        generalize hPI : pyIter = PI
        wp_walk
        subst hPI
        refine wpAny_pyIter_list hl1 ?_
        refine wpAny_bind (wpAny_runValue ?_)
        have hlS : la < s.heap.objs.size := Heap.lt_size hol
        have hh3 : A.in1.in1.in1.handled = none := by simp [hh]
        have hneI : la ≠ (s.heap.push { cls := .type "set", dict := none, data := .set #[] 0 (.fresh 0 0 (!w.params.followText "set-order")) }).objs.size := by rw [Heap.size_push]; exact Nat.ne_of_lt (Nat.lt_succ_of_lt hlS)
        have hSf : s.heap.objs.size ∉ [(s.heap.push { cls := .type "set", dict := none, data := .set #[] 0 (.fresh 0 0 (!w.params.followText "set-order")) }).objs.size, la] := by
          rw [Heap.size_push]
          simp only [List.mem_cons, List.mem_singleton, List.not_mem_nil, or_false, not_or]
          exact ⟨Nat.ne_of_lt (Nat.lt_succ_self _), Nat.ne_of_gt hlS⟩
        have hval : ∀ (i : Nat) (v : Value), items[i]? = some v → ∃ x t, xs[i]? = some x ∧ v = .str x t := fun i v hv => by
          have hi' : i < xs.length := by rw [← hsz]; exact (Array.getElem?_eq_some_iff.mp hv).1
          obtain ⟨t, e⟩ := SS.strs_at hi i v (by rw [Array.getElem?_toList]; exact hv)
          refine ⟨xs[i], t, List.getElem?_eq_getElem hi', ?_⟩
          rw [e, List.getD_eq_getElem?_getD, List.getElem?_eq_getElem hi'] <;> rfl
        refine tset_update ((Walks.list hh3 _ la hneI items).toS) s.heap.objs.size hSf xs hsz hb hval (items.size - 0) 0 _ (by omega) (Nat.zero_le _) ⟨⟨_, Heap.get?_push_size _ rfl, rfl, rfl⟩, (hl1.push _)⟩ ?hS0 ?hR
        case hS0 =>
          refine tset_fresh w ?_
          exact Heap.get?_push_of_some _ hS
        case hR =>
          intro s' hm hS'
          obtain ⟨h', g2, d', tk', os'⟩ := s'
          obtain rfl : g2 = s.gens := hm.gens
          obtain rfl : d' = s.drawn := hm.drawn
          obtain rfl : os' = s.os := hm.os
          show wpAny _ _ _ _ _ _
          refine wpAny_pure ?_
          show wpAny _ _ (ret Value.none) _ _ _
          refine wpAny_pure ⟨rfl, h', tk', rfl, hS', fun b o e => ?_⟩
          have hb0 : b < s.heap.objs.size := Heap.lt_size e
          have hb1 : b ≠ s.heap.objs.size := Nat.ne_of_lt hb0
          have hb2 : b ≠ (s.heap.push { cls := .type "set", dict := none, data := .set #[] 0 (.fresh 0 0 (!w.params.followText "set-order")) }).objs.size := by rw [Heap.size_push]; exact Nat.ne_of_lt (Nat.lt_succ_of_lt hb0)
          exact hm.heap b o (by simp only [List.mem_cons, List.mem_singleton, List.not_mem_nil, or_false, not_or]; exact ⟨hb1, hb2⟩) (Heap.get?_push_of_some _ (Heap.get?_push_of_some _ e))
      · cases r₂ with
        | error e => exact hr₂
        | ok fl₂ =>
          cases fl₂ with
          | ret r =>
            obtain ⟨rfl, h', tk, rfl, hS', hk'⟩ := hr₂
            repeat (any_goals (first | assumption | wp_step))
            exact h _ _ hS' hk'
          | _ => exact hr₂.elim
    | _ => exact hr.elim
end
/-! ### as tracked things -/
def SetTO (w : World) (a : Addr) (l : List Str) : HO := .ext fun h => TxtSet w h a l
theorem setTO_new {w : World} {P : Program} {H : Hp} {h : Heap} {a : Addr} {l : List Str} (R : TxtSet w h a l) : ObjOk P w H h a (SetTO w a l) := by
  have ⟨o, _, _, _, ho, _⟩ := R
  exact ⟨R, ⟨o, ho⟩, fun h1 h2 p k => TxtSet.up p k⟩
section
variable {X : Cx} {K : PySem.W.Frag}
theorem setTO_get {pins : List (Addr × Obj)} {σ : L2.St} {H : Hp} {s : Shared} {a : Addr} {l : List Str} (I : Inv X pins σ H s) (ha : H a = some (SetTO X.w a l)) : TxtSet X.w s.heap a l := (I.hok a _ ha).1
/-- set(xs), xs texts -/
def rSetT (K : PySem.W.Frag) (w : World) : List V → Hp → VK → Prop := fun vs H Q => ∃ (a : Addr) (xs : List Str), vs = [.ref a] ∧ SqL K H a (xs.map V.str) ∧ xs.length ≤ 4000 ∧ ∀ p, H p = none → Q (.ref p) (upd H p (SetTO w p (ddT xs)))
theorem cr_setT (calm : X.calm = true) : CallR X (.type "set") (rSetT X.K X.w) := by
  intro pins s σ H vs us Q I r h
  obtain ⟨a, xs, rfl, hl, hb, q⟩ := h
  obtain ⟨u, rfl, ru⟩ := vals1 r
  cases ru
  obtain ⟨its, rv, pl, hz⟩ := I.list hl
  refine call_setT xs (I.ok.hd calm) pl.isList (by simpa using strsAre_of rv) (by have : scanBound = 4096 := rfl; omega) fun h' tk new keep => ?_
  exact ⟨.ref _, _, I.laid (t' := tk) keep (Nat.le_refl _) (setTO_new new), rfl, q _ I.fresh⟩
end
end Dk

set_option Elab.async false
set_option linter.all false
set_option maxRecDepth 100000
set_option maxHeartbeats 3200000
namespace Dk
open PySem PySem.Spec PyProof.Rows L2
open Evl (Ex)
open Py (rp)

/-! ### sorted(s), s a set of texts -/
section
variable {P : Program} {w : World} {A : Around} {E : Value → Shared → Prop} {s : Shared} {a : Addr} {l : List Str}
theorem strs_all {w : World} {es : List (Int × Value)} (g : ∀ e ∈ es, GoodT w e) : StrsAre (es.map (·.2)) (es.map keyT) := by
  induction es with
  | nil => exact .nil
  | cons e r ih =>
    obtain ⟨x, tk, h1, _⟩ := g e (List.mem_cons_self ..)
    rw [List.map_cons, List.map_cons, h1, show keyT e = x by unfold keyT; rw [h1]]
    exact .cons x tk (ih fun q hq => g q (List.mem_cons_of_mem _ hq))
def txtOf (v : Value) : Str := match v with | .str x _ => x | _ => ⟨#[]⟩
theorem strs_txt : ∀ {vs : List Value}, (∀ v ∈ vs, ∃ x t, v = Value.str x t) → StrsAre vs (vs.map txtOf)
  | [], _ => .nil
  | v :: vs, h => by
    obtain ⟨x, t, rfl⟩ := h v (List.mem_cons_self ..)
    exact .cons x t (strs_txt fun u hu => h u (List.mem_cons_of_mem _ hu))
theorem sorted_tset {Q : Value → Shared → Prop} (R : TxtSet w s.heap a l) (hh : A.handled = none) (h64 : l.length < 64)
    (hQ : ∀ s' p (out : Array Value) (c : Nat) (ys : List Str), (∀ b o, s.heap.get? b = some o → s'.heap.get? b = some o) → s'.gens = s.gens → s'.os = s.os → s.heap.objs.size ≤ p →
      s'.heap.get? p = some (seqObj "list" out c) → StrsAre out.toList ys → ys.Perm l → sortedS ys = true → Q (.ref p) s') :
    wpAny (model P w) A (call (.builtin "sorted") [.ref a]) Q E s := by
  obtain ⟨o, es, ep, t, ho, hex, hd, g, pml, nd, hb, hf, hr, hl⟩ := R
  refine Calls.call_function_entry kind_sorted plain_sorted entry_sorted (args_sorted1 _) ?_
  unfold Builtin.«sorted»
  refine wpAny_bind (m := checkCount "sorted" 1 1 _) (wpAny_pure ?_)
  refine wpAny_bind (collect_set (A := A.in1) hh ⟨o, ho, hex.1, hd⟩ hf hb hr hl fun s1 vs k1 hz g1 o1 pm => ?_)
  have hI : StrsAre vs (vs.map txtOf) := strs_txt fun v hv => by
    obtain ⟨e, he, q⟩ := List.mem_map.mp (pm.mem_iff.mp hv)
    obtain ⟨x, tk, h1, _⟩ := g e he
    exact ⟨x, tk, by rw [← q]; exact h1⟩
  have pk : (vs.map txtOf).Perm l := by
    have q := pm.map txtOf
    rw [List.map_map] at q
    exact q.trans pml
  have hvl : vs.length = l.length := by rw [← pk.length_eq, List.length_map]
  refine wpAny_bind (wpAny_newList ?_ (by rw [hvl, sizeLine_eq]; omega))
  have hoL : (s1.heap.push (seqObj "list" vs.toArray 0)).get? s1.heap.objs.size = some (seqObj "list" vs.toArray 0) := Heap.get?_push_size _ rfl
  refine wpAny_bind (wpAny_holding (wpAny_call_entry slot_list_sort ⟨_, hoL, rfl⟩ entry_list_sort
    (list_sort_treeK strKind_oneLt hoL hI.keysOf (fun v₁ v₂ rest e => keyKind_strs (by rw [← e]; exact hI)) (by rw [hvl]; exact h64) fun st' hp hs => ⟨_, rfl, ?_⟩) (args_list_sort _)))
  obtain ⟨ys, e1, e2, e3⟩ := sorted_out_str hI hp hs
  obtain ⟨c, hc⟩ := sortedHeap_at (vs := vs) (out := (arrOf st').map (·.2)) hoL
  refine wpAny_pure ⟨_, rfl, hQ _ s1.heap.objs.size _ c ys (fun b u e => ?_) g1 o1 hz hc e1 (e2.trans pk) e3⟩
  have q := k1 b u e
  have hlt := Heap.lt_size q
  rw [sortedHeap_old (Nat.ne_of_lt hlt) (by rw [size_push']; exact Nat.lt_succ_of_lt hlt)]
  exact Heap.get?_push_of_some _ q
end
section
variable {X : Cx} {K : PySem.W.Frag}
def rSortT (w : World) : List V → Hp → VK → Prop := fun vs H Q => ∃ (a : Addr) (l : List Str), vs = [V.ref a] ∧ H a = some (SetTO w a l) ∧ l.length < 64 ∧
  ∀ (ys : List Str) (p : Addr), ys.Perm l → sortedS ys = true → H p = none → Q (.ref p) (upd H p (.lst (ys.map V.str)))
theorem cr_sortT (hc : X.calm = true) : CallR X (.builtin "sorted") (rSortT X.w) := by
  intro pins s σ H vs us Q I r h
  obtain ⟨a, l, rfl, ha, h64, q⟩ := h
  have R := setTO_get I ha
  rw [Vals.ref1 r]
  refine sorted_tset R (I.ok.hd hc) h64 fun s' p out c ys k g o hp hg hi pm hs => ?_
  have hlen : (ys.map V.str).length ≤ sizeLine := by rw [List.length_map, pm.length_eq, sizeLine_eq]; omega
  have hn : H p = none := I.hok.fresh hp
  have J : Inv X pins σ (upd H p (.lst (ys.map V.str))) { s with heap := s'.heap, gens := s'.gens, drawn := s'.drawn, toks := s'.toks } :=
    I.call (ch := []) (Un.laid k hp hn) (I.hok.laid k hp ⟨hlen, out.toList, c, vals_of_strs hi, hg⟩) (by rw [g]; exact I.bare) (fun _ z => nomatch z)
  have e : s' = { s with heap := s'.heap, gens := s'.gens, drawn := s'.drawn, toks := s'.toks } := by cases s'; cases s; cases o; rfl
  rw [e]
  exact ⟨.ref p, _, J, rfl, q ys p pm hs hn⟩
end
end Dk

set_option Elab.async false
set_option linter.all false
set_option maxRecDepth 100000
set_option maxHeartbeats 3200000
namespace Dk
open PySem PySem.Spec PyProof.Rows L2
open Evl (Ex)
open Py (rp)
open PpSet (newSet_ok compLoopS_any codeAny_compStart_set)
/-! ### {x for .. in ..}, x a text: D the new set -/
section
variable {X : Cx}
theorem addT_ok {pins : List (Addr × Obj)} {σ : L2.St} {H : Hp} {s : Shared} {E : Value → Shared → Prop} {D : Addr} {l : List Str} {y : Str} {tk : Tok} {Q : Value → Shared → Prop} (I : Inv X pins σ H s) (hD : H D = some (SetTO X.w D l)) (room : l.length + 1 < scanBound)
    (h : ∀ s', Inv X pins σ (upd H D (SetTO X.w D (putT l y))) s' → Q .none s') : wpAny (model X.prog X.w) X.A (call (.builtin "set.add") [.ref D, .str y tk]) Q E s := by
  refine tset_add (setTO_get I hD) room fun h' sb new => ?_
  have he : ∃ u, h'.get? D = some u := let ⟨o, _, _, _, ho, _⟩ := new; ⟨o, ho⟩
  exact h _ (I.write (e := D) (t' := s.toks + 1) (by rw [hD]; trivial) (.inl rfl) (fun b u hb hu => (sb.2 b hb).trans hu) he (setTO_new new))
def tScT (w : World) (wi : TI) (g : TG) (tt : TT) (te : TE) (vs : List Nat) : TE := fun σ H Q => wi σ H fun J H1 => ∀ D, H1 D = none → ∃ W : Nat → Nat → Hp → Prop, (∃ m, W 0 m (upd H1 D (SetTO w D []))) ∧ ∀ i m H, W i m H →
  (J.stop i H ∧ Q (.ref D) H) ∨ (J.go i H ∧ ∃ Nx : Hp → Prop, (∀ H', Nx H' → ∃ m', m' < m ∧ W (i + 1) m' H') ∧ ∀ x H', J.yld i H x H' → g x (wipe σ vs) H' fun σ2 H2 => wipe σ2 vs = wipe σ vs ∧ tt σ2 H2 fun b H3 =>
    if b = true then te σ2 H3 fun y H4 => ∃ (c : Str) (l : List Str), y = .str c ∧ H4 D = some (SetTO w D l) ∧ l.length + 1 < scanBound ∧ Nx (upd H4 D (SetTO w D (putT l c))) else Nx H3)
theorem scT_core {pins : List (Addr × Obj)} {s : Shared} {σ : L2.St} {H : Hp} {Q : VK} {elt tg iter : Expr} {ifs : List Expr} {scope : Scope} {own : List (PySem.Str × Nat)} {pos pos' : Pos} {wi : TI} {g : TG} {tt : TT} {te : TE} {use : Option (Value → Sem Unit)} {Qf : Value → Shared → Prop}
    (hc : X.calm = true) (hN : X.N.Nodup) (I : Inv X pins σ H s) (hi : PI X tg iter wi) (ok : BlkOk X.N X.env.scope scope own)
    (hg : ∀ (s : Shared) (H : Hp) (C : Addr) (cl : List (PySem.Str × Addr)) (fp : List Addr), PG (X.blk s H scope (compEnvC scope cl C X.env) fp) tg g) (ht : ∀ (s : Shared) (H : Hp) (C : Addr) (cl : List (PySem.Str × Addr)) (fp : List Addr), PTs (X.blk s H scope (compEnvC scope cl C X.env) fp) ifs tt)
    (he : ∀ (s : Shared) (H : Hp) (C : Addr) (cl : List (PySem.Str × Addr)) (fp : List Addr), PE (X.blk s H scope (compEnvC scope cl C X.env) fp) elt te) (hs : ∀ x, foldedSetIterable iter X.env x = pure x)
    (h : tScT X.w wi g tt te (own.map (·.2)) σ H Q)
    (hRR : ∀ D C s' m H', Inv X pins σ H' s' → Q (.ref D) H' → s'.heap.Ns C m → FpOk X pins H' C → compPost (model X.prog X.w) X.A X.xe use Qf (.ref D) C (.ok .next) s') :
    wpAny (model X.prog X.w) X.A (comprehension (.SetComp elt [⟨tg, iter, ifs, 0⟩] scope pos) scope X.env pos' (newSet (.type "set")) false (eval iter X.env) use) Qf X.xe s := by
  have hfr : ∀ y ∈ scope.names, y.2 = .free → ∃ c, X.env.cells.lookup y.1 = some c := fun y hy e => by
    rcases ok.free y hy e with k | k
    · exact I.ok.has _ (.inl k)
    · exact I.ok.has _ (.inr k)
  refine wpAny_comprehension_free (use := use) rfl hs (closure_ok hfr) ok.kind (fun y hy e => by rw [ok.uniq y hy, e])
    (thn (hi.run pins s σ H _ I h) fun xv u1 hx => thn hx fun itv u2 h2 => ?_)
  obtain ⟨it, fp, tn, J, M2, e, V2, T, kt2, ff2, q⟩ := h2
  subst e
  refine newSet_ok (newEnv_comp ?_)
  generalize hD : u2.heap.objs.size = D
  have hDn : M2 D = none := V2.hok.fresh (Nat.le_of_eq hD)
  obtain ⟨W, ⟨m0, ww0⟩, tun⟩ := q D hDn
  -- the new list
  generalize hu3 : ({ u2 with heap := u2.heap.push { cls := .type "set", dict := none, data := .set #[] 0 (.fresh 0 0 (!X.w.params.followText "set-order")) } } : Shared) = u3
  have V3 : Inv X pins σ (upd M2 D (SetTO X.w D [])) u3 := by
    rw [← hu3]
    refine V2.laid (t' := u2.toks) (fun b o e => Heap.get?_push_of_some _ e) (Nat.le_of_eq hD) ?_
    rw [← hD]
    exact setTO_new (tset_fresh X.w (Heap.get?_push_size _ rfl))
  have h3 : u3.heap = u2.heap.push { cls := .type "set", dict := none, data := .set #[] 0 (.fresh 0 0 (!X.w.params.followText "set-order")) } := by rw [← hu3]
  have szz : ∀ b ∈ fp, b < u2.heap.objs.size := fun b hb => by
    obtain ⟨o, e, _⟩ := T.obj _ _ kt2 b hb
    exact Heap.lt_size e
  have ff3 : ∀ b ∈ fp, FpOk X pins (upd M2 D (SetTO X.w D [])) b ∧ b < u3.heap.objs.size := fun b hb => by
    have hlt := szz b hb
    refine ⟨⟨?_, (ff2 b hb).2⟩, by rw [h3, Heap.size_push]; exact Nat.lt_succ_of_lt hlt⟩
    rw [upd_ne (by rw [← hD]; exact Nat.ne_of_lt hlt)]
    exact (ff2 b hb).1
  have kt3 : tn 0 u3.heap := T.keep _ _ _ kt2 fun b _ o e => by rw [h3]; exact Heap.get?_push_of_some _ e
  have V4 := block_start V3 ok hN ff3
  have pgt := hg u3 (upd M2 D (SetTO X.w D [])) u3.heap.objs.size (cellsFrom (u3.heap.objs.size + 1) scope.names (cloFrom X.env.cells scope.names [])) fp
  have ptt := ht u3 (upd M2 D (SetTO X.w D [])) u3.heap.objs.size (cellsFrom (u3.heap.objs.size + 1) scope.names (cloFrom X.env.cells scope.names [])) fp
  have pel := he u3 (upd M2 D (SetTO X.w D [])) u3.heap.objs.size (cellsFrom (u3.heap.objs.size + 1) scope.names (cloFrom X.env.cells scope.names [])) fp
  show codeAny _ _ (.compStart (.SetComp elt [⟨tg, iter, ifs, 0⟩] scope pos) 0 (.ref it) (.ref D) (compEnvC scope (cellsFrom (u3.heap.objs.size + 1) scope.names (cloFrom X.env.cells scope.names [])) u3.heap.objs.size X.env)) (compPost (model X.prog X.w) X.A X.xe use Qf (.ref D) u3.heap.objs.size) { u3 with heap := pushCells (u3.heap.push { cls := .type "dict", data := .dict #[] }) scope.names }
  have nff : ∀ b ∈ fp, (upd M2 D (SetTO X.w D [])) b = none := fun b hb => (ff3 b hb).1.1
  generalize hce : compEnvC scope (cellsFrom (u3.heap.objs.size + 1) scope.names (cloFrom X.env.cells scope.names [])) u3.heap.objs.size X.env = cmp at V4 pgt ptt pel ⊢
  have cL : cmp.locals = u3.heap.objs.size := by subst hce; rfl
  generalize hH3 : upd M2 D (SetTO X.w D []) = M3 at V3 V4 pgt ptt pel ww0 nff ff3
  generalize hu4 : ({ u3 with heap := pushCells (u3.heap.push { cls := .type "dict", data := .dict #[] }) scope.names } : Shared) = u4 at V4 ⊢
  have kt4 : tn 0 u4.heap := T.keep _ _ _ kt3 fun b _ o e => by rw [← hu4]; exact pushCells_keeps _ _ _ _ (Heap.get?_push_of_some _ e)
  have stt : ∀ {σ' : L2.St} {H' : Hp} {s' : Shared}, Inv (X.blk u3 M3 scope cmp fp) [] σ' H' s' → (∀ b ∈ fp, H' b = none) → ∀ b ∈ fp, FpOk (X.blk u3 M3 scope cmp fp) [] H' b := fun {σ' H' s'} I' hn b hb =>
    ⟨hn b hb, (I'.ok.exf b hb).1, I'.ok.exfs b hb, .inl hb, fun x c e => (I'.ok.exf b hb).2 x c e, fun p hp => absurd (show p ∈ ([] : List (Addr × Obj)) ++ [] from hp) (by simp)⟩
  have lp : codeAny (model X.prog X.w) X.A (.compLoop (.SetComp elt [⟨tg, iter, ifs, 0⟩] scope pos) 0 (.ref it) (.ref D) cmp) (compPost (model X.prog X.w) X.A X.xe use Qf (.ref D) u3.heap.objs.size) u4 := by
    refine compLoopS_any (fun n s' => ∃ i H', Inv (X.blk u3 M3 scope cmp fp) [] (wipe σ (own.map (·.2))) H' s' ∧ tn i s'.heap ∧ (∀ b ∈ fp, H' b = none) ∧ W i n H') ?_ m0 ⟨0, M3, V4, kt4, nff, ww0⟩
    rintro n u5 ⟨i, M5, V5, kt5, nn5, ww5⟩
    rcases tun i n M5 ww5 with ⟨stop, qq⟩ | ⟨go, Nx, hNx, stp⟩
    · have td := T.done (X.blk u3 M3 scope cmp fp) rfl rfl rfl hc i [] u5 _ M5 (fun _ _ => False) V5 (stt V5 nn5) kt5 stop
      refine thnF td fun r u6 ⟨hr, V6⟩ => ?_
      subst hr
      -- back in the def's context
      have V7 : Inv X pins σ M5 u6 := V3.call' (ch := fp) V6.os V6.base V6.hok V6.bare fun b hb => ⟨(ff3 b hb).1.2.2.2.1, (ff3 b hb).1.2.1, (ff3 b hb).1.2.2.2.2.1, (ff3 b hb).1.2.2.2.2.2⟩
      have nC : M5 u3.heap.objs.size = none := by
        have z : M5 cmp.locals = none := V6.free
        rw [cL] at z
        exact z
      obtain ⟨m, hn, _⟩ := V6.loc
      have hn : u6.heap.Ns cmp.locals m := hn
      rw [cL] at hn
      exact hRR D u3.heap.objs.size u6 m M5 V7 qq hn (V3.fpOk (Nat.le_refl _) nC)
    · have ti := T.item (X.blk u3 M3 scope cmp fp) rfl rfl rfl hc i [] u5 _ M5 (fun _ _ => False) V5 (stt V5 nn5) kt5 go
      refine thnF ti fun r u6 ⟨u, hr, h6⟩ => ?_
      subst hr
      refine thnF h6 fun _ u7 ⟨x, M7, V7, r7, y7, kt7, n7⟩ => ?_
      have V7' := V7.pinned (stt V7 n7) (T.obj _ _ kt7)
      refine thnF (pgt.run _ u7 _ M7 x u _ V7' r7 (stp x M7 y7)) fun _ u8 ⟨σ8, M8, V8, hw8, q8⟩ => ?_
      refine thnF (ptt.run _ u8 σ8 M8 _ V8 q8) fun b u9 ⟨M9, V9, q9⟩ => ?_
      -- the tun's end
      have fn : ∀ {s' : Shared} {H' : Hp}, Inv (X.blk u3 M3 scope cmp fp) ([] ++ pinsAt fp u7.heap) σ8 H' s' → Nx H' → ∃ m, m < n ∧ ∃ i H', Inv (X.blk u3 M3 scope cmp fp) [] (wipe σ (own.map (·.2))) H' s' ∧ tn i s'.heap ∧ (∀ b ∈ fp, H' b = none) ∧ W i m H' := fun {s' H'} I' nx => by
        obtain ⟨m', hm, w'⟩ := hNx H' nx
        have pin' : ∀ b ∈ fp, ∀ o, u7.heap.get? b = some o → s'.heap.get? b = some o ∧ H' b = none := fun b hb o e =>
          let z := I'.pin (b, o) (List.mem_append_right _ (List.mem_append_right _ (mem_pinsAt hb e)))
          ⟨z.1, z.2.1⟩
        have hl : (wipe σ (own.map (·.2))).length = σ8.length := by rw [← hw8, wipe_length]
        refine ⟨m', hm, i + 1, H', (I'.unpinned (pins := [])).weak hl (fun j v e => ?_), T.keep _ _ _ kt7 fun b hb o e => (pin' b hb o e).1, fun b hb => ?_, w'⟩
        · rw [← hw8] at e
          exact (wipe_some e).1
        · obtain ⟨o, e, _⟩ := T.obj _ _ kt7 b hb
          exact (pin' b hb o e).2
      cases b with
      | false =>
        simp only [Bool.false_eq_true, if_false] at q9 ⊢
        exact fn V9 q9
      | true =>
        simp only [if_true] at q9 ⊢
        refine thnF (pel.run _ u9 σ8 M9 _ V9 q9) fun z u10 ⟨yv, M10, V10, r10, cx, lx, ey, hD10, hz10, nx⟩ => ?_
        subst ey
        obtain ⟨tkx, rfl⟩ := r10
        exact addT_ok (X := X.blk u3 M3 scope cmp fp) V10 hD10 hz10 fun u11 V11 => fn V11 nx
  exact codeAny_compStart_set lp (T.self X.A 0 _ _ _ kt4 lp)

theorem pe_scT {elt tg iter : Expr} {ifs : List Expr} {scope : Scope} {own : List (PySem.Str × Nat)} {pos : Pos} {wi : TI} {g : TG} {tt : TT} {te : TE} {w : World} (hw : X.w = w) (hc : X.calm = true) (hN : X.N.Nodup) (hi : PI X tg iter wi) (ok : BlkOk X.N X.env.scope scope own)
    (hg : ∀ (s : Shared) (H : Hp) (C : Addr) (cl : List (PySem.Str × Addr)) (fp : List Addr), PG (X.blk s H scope (compEnvC scope cl C X.env) fp) tg g) (ht : ∀ (s : Shared) (H : Hp) (C : Addr) (cl : List (PySem.Str × Addr)) (fp : List Addr), PTs (X.blk s H scope (compEnvC scope cl C X.env) fp) ifs tt)
    (he : ∀ (s : Shared) (H : Hp) (C : Addr) (cl : List (PySem.Str × Addr)) (fp : List Addr), PE (X.blk s H scope (compEnvC scope cl C X.env) fp) elt te) (hs : ∀ x, foldedSetIterable iter X.env x = pure x := by intro _; rfl) :
    PE X (.SetComp elt [⟨tg, iter, ifs, 0⟩] scope pos) (tScT w wi g tt te (own.map (·.2))) := by
  subst hw
  refine ⟨fun pins s σ H Q I h => ?_⟩
  rw [PpSet.eval_SetComp]
  refine scT_core hc hN I hi ok hg ht he hs h fun D C s' m H' I' q hn f => ⟨m, hn, fun h'' sb => ?_⟩
  obtain ⟨f0, f1, f2, f3, f4, f5⟩ := f
  exact ⟨.ref D, H', I'.turned (t' := s'.toks) (fun b o hb e => (sb.2 b hb).trans e) f0 f1 f3 f4 f5, rfl, q⟩
theorem setTQ {K : PySem.W.Frag} {w : World} (h : X.K = K) (hw : X.w = w) (c : X.calm = true) : CallR X (.type "set") (rSetT K w) := h ▸ hw ▸ cr_setT c
theorem sortTQ {w : World} (hw : X.w = w) (c : X.calm = true) : CallR X (.builtin "sorted") (rSortT w) := hw ▸ cr_sortT c
end
/-! ### as data -/
structure TSet (w : World) where
  items : List Str
instance {w : World} : Py (TSet w) := ⟨fun G v t => ∃ a, v = .ref a ∧ G a = some (SetTO w a t.items), fun e ⟨a, h1, h2⟩ => ⟨a, h1, e a _ h2⟩⟩
section
variable {α β γ : Type} [Py α] [Py β] [Py γ] {B : Option Addr} {O O' : List (Addr × HO)} {te ta tb td tl : TE} {tt : TT} {ts tz : TS} {g : TG} {σ : L2.St} {G H : Hp} {K : PySem.W.Frag} {D : Ends} {w : World}
theorem ev_setT {P : List Str → Prop} (h : EvP B O te σ G P) (hl : ∀ xs, P xs → xs.length ≤ 4000) : EvP B O (tCB (rSetT K w) (tCons te tNil)) σ G fun t : TSet w => ∃ xs, P xs ∧ t.items = ddT xs := fun G1 H1 e s Q q =>
  h G1 H1 e s _ fun v xs G2 H2 p e2 s2 ⟨a, vs, ev, ha, ra⟩ => ⟨a, xs, by rw [ev], SqL.of (s2.ex a _ (by rw [ha, all2_strs ra])), hl xs p, fun l hn => q (.ref l) ⟨ddT xs⟩ _ _ ⟨xs, p, rfl⟩ (Ex.t e2 (s2.grow hn)) (s2.still hn) ⟨l, rfl, upd_same⟩⟩
theorem en_sortT {P : TSet w → Prop} (h : EvP B O te σ G P) (hl : ∀ t, P t → t.items.length < 64) : EvN B O (tCB (rSortT w) (tCons te tNil)) σ G fun ys => ∃ t, P t ∧ ys.Perm t.items ∧ sortedS ys = true := fun G1 H1 e s Q q =>
  h G1 H1 e s _ fun v t G2 H2 p e2 s2 ⟨a, ev, ha⟩ => ⟨a, t.items, by rw [ev], s2.ex a _ ha, hl t p, fun ys l pm so hn => q l _ ys G2 _ ⟨t, p, pm, so⟩ e2 (s2.mine hn) (all2_of_strs ys)⟩
theorem ev_scT {ws : List Nat} {P : List α → Prop} (c : α → Bool) (R : α → Str → Prop) (h : EvP B O tl σ G P) (hz : ∀ xs, P xs → xs.length ≤ 4000)
    (ht : ∀ xs x v G2 H2 O2 (Q : L2.St → Hp → Prop), P xs → x ∈ xs → Ex G G2 → Sx B O2 G2 H2 → rp G2 v x → (∀ σ2, wipe σ2 ws = wipe σ ws → EtD B O2 tt σ2 G2 (c x) → (c x = true → EvP B O2 te σ2 G2 (R x)) → Q σ2 H2) → g v (wipe σ ws) H2 Q) :
    EvP B O (tScT w (iList K tl) g tt te ws) σ G fun t : TSet w => ∃ xs ys, P xs ∧ Rel2 R (xs.filter c) ys ∧ t.items = ddT ys := fun G1 H1 e s Q q =>
  h G1 H1 e s _ fun v xs G2 H2 p e2 s2 ⟨a, vs, ev, ha, ra⟩ => ⟨a, ev, ⟨vs, SqL.of (s2.ex a _ ha)⟩, fun Dl hD => by
    have vlen := all2_len ra
    have hzz := hz xs p
    let Pv : Nat → Hp → Prop := fun i H => ∃ G3 ys, Ex G2 G3 ∧ Sx B ((Dl, SetTO w Dl (ddT ys)) :: O) G3 H ∧ Rel2 R ((xs.take i).filter c) ys
    refine ⟨fun i m H => m = vs.length - i ∧ i ≤ vs.length ∧ Pv i H, ⟨vs.length, by simp, Nat.zero_le _, G2, [], Ex.r, s2.mine hD, .nil⟩, ?_⟩
    rintro i m H ⟨rfl, hi, G3, ys, e3, s3, l3⟩
    have sq : SqL K H a vs := SqL.of (s3.ex a _ (e3 a _ ha))
    by_cases hlt : i < vs.length
    · refine .inr ⟨⟨vs, vs[i], sq, by simp [hlt]⟩, Pv (i + 1), fun H' p' => ⟨vs.length - (i + 1), by omega, rfl, hlt, p'⟩, fun y H' hy => ?_⟩
      obtain ⟨rfl, hy⟩ := hy
      obtain ⟨x, hx, rx⟩ := all2_getV ra (hy vs sq)
      refine ht xs x y G3 _ _ _ p (List.mem_of_getElem? hx) (Ex.t e (Ex.t e2 e3)) s3 (Py.up e3 rx) fun σ2 hw h1 h2 => ⟨hw, ?_⟩
      refine h1 G3 _ Ex.r s3 _ fun b G4 H4 pb e4 s4 => ?_
      have pb : b = c x := pb
      subst pb
      by_cases hc : c x = true
      · rw [if_pos hc]
        refine h2 hc G4 H4 e4 s4 _ fun z y G5 H5 ry e5 s5 rz => ?_
        cases rz
        have hys := rel2_len l3
        have hyl : ys.length ≤ xs.length := by
          rw [hys]
          refine Nat.le_trans (List.length_filter_le _ _) ?_
          rw [List.length_take]
          omega
        have hdl := ddT_len ys
        refine ⟨y, ddT ys, rfl, s5.head.1, by have : scanBound = 4096 := rfl; omega, G5, ys ++ [y], Ex.t e3 (Ex.t e4 e5), ?_, ?_⟩
        · rw [ddT_snoc]
          exact s5.put
        · rw [filter_take_succ hx, if_pos hc]
          exact rel2_snoc l3 ry
      · rw [if_neg hc]
        refine ⟨G4, ys, Ex.t e3 e4, s4, ?_⟩
        rw [filter_take_succ hx, if_neg hc, List.append_nil]
        exact l3
    · have ei : i = vs.length := by omega
      subst ei
      rw [vlen, List.take_length] at l3
      obtain ⟨s4, e4⟩ := s3.freeze
      exact .inl ⟨⟨vs, sq, Nat.le_refl _⟩, q _ ⟨ddT ys⟩ _ _ ⟨xs, ys, p, l3, rfl⟩ (Ex.t e2 (Ex.t e3 e4)) s4 ⟨Dl, rfl, upd_same⟩⟩⟩
end
end Dk

set_option Elab.async false
set_option linter.all false
set_option maxRecDepth 100000
set_option maxHeartbeats 1000000
namespace Dk
open PySem PySem.Spec PyProof.Rows L2
open Evl (Ex)
open Py (rp)
/-! ### a dict of one's own whose values are all True -/
def trueD (l : List Str) : List (Key × V) := l.map fun x => (.inr x, .bl true)
theorem valV_trueD : ∀ {l : List Str} {x : Str}, valV (trueD l) (.inr x) = if x ∈ l then some (.bl true) else none
  | [], x => by simp [trueD, valV_nil]
  | y :: l, x => by
    have ih := valV_trueD (l := l) (x := x)
    unfold trueD at ih ⊢
    rw [List.map_cons]
    by_cases e : y = x
    · subst e
      rw [valV_pos rfl, if_pos (List.mem_cons_self ..)]
    · rw [valV_neg fun q => e (Sum.inr.inj q), ih]
      by_cases h : x ∈ l
      · rw [if_pos h, if_pos (List.mem_cons_of_mem _ h)]
      · rw [if_neg h, if_neg fun q => (List.mem_cons.mp q).elim (fun q => e q.symm) h]
theorem putK_trueD {l : List Str} {x : Str} : putK (trueD l) (.inr x) (.bl true) = trueD (putT l x) := by
  unfold putT
  by_cases h : x ∈ l
  · rw [if_pos h]
    unfold putK
    rw [if_pos]
    · unfold trueD
      rw [List.map_map]
      refine List.map_congr_left fun y _ => ?_
      show (if (Sum.inr y : Key) = .inr x then ((.inr y : Key), V.bl true) else (.inr y, .bl true)) = (.inr y, .bl true)
      split <;> rfl
    · rw [valV_any, valV_trueD, if_pos h]
      rfl
  · rw [if_neg h, putK_new _ (by rw [valV_trueD, if_neg h])]
    unfold trueD
    rw [List.map_append]
    rfl
theorem trueD_len (l : List Str) : (trueD l).length = l.length := by unfold trueD; rw [List.length_map]
section
variable {α β γ : Type} [Py α] [Py β] [Py γ] {B : Option Addr} {O O' : List (Addr × HO)} {te ta tb td tl : TE} {tt : TT} {ts tz : TS} {g : TG} {σ : L2.St} {G H : Hp} {K : PySem.W.Frag} {D : Ends} {w : World}
theorem s_dputT {i : Nat} {l : Addr} {us : List Str} {x : Str} (hv : σ[i]? = some (some (.ref l))) (hx : EvD B ((l, .dK (trueD us)) :: O) ta σ G x) (hz : us.length ≤ 1000000) (s : Sx B ((l, .dK (trueD us)) :: O) G H)
    (k : ∀ G2 H2, Ex G G2 → Sx B ((l, .dK (trueD (putT us x))) :: O) G2 H2 → D.nx σ H2) : sDPut (tVar i) ta (tC (.bl true)) D σ H :=
  ⟨_, hv, hx G H Ex.r s _ fun v x' G3 H3 px e3 s3 rx => by
    have px : x' = x := px
    subst px
    cases rx
    refine ⟨l, _, rfl, .inl ⟨trueD us, .inr x', s3.head.1, rfl, line_lt (by rw [trueD_len]; exact hz), rfl⟩, ?_⟩
    rw [putK_trueD]
    exact k G3 _ e3 s3.put⟩
theorem ev_dnotinT {i : Nat} {l : Addr} {us : List Str} {x : Str} (hm : (l, HO.dK (trueD us)) ∈ O) (hv : σ[i]? = some (some (.ref l))) (h : EvD B O ta σ G x) : EvD B O (tDNotIn ta (tVar i)) σ G (!decide (x ∈ us)) := fun G1 H1 e s Q q =>
  h G1 H1 e s _ fun v x' G2 H2 p e2 s2 rx => ⟨_, hv, by
    have p : x' = x := p
    subst p
    cases rx
    refine ⟨l, valV (trueD us) (.inr x'), rfl, .inl ⟨_, .inr x', .of (s2.own _ hm).1, rfl, rfl⟩, q _ _ G2 H2 rfl e2 s2 ?_⟩
    rw [valV_trueD]
    by_cases h : x' ∈ us
    · rw [if_pos h, decide_eq_true h]; rfl
    · rw [if_neg h, decide_eq_false h]; rfl⟩
/-- x, d = e, {} -/
theorem q_unpDict {i j : Nat} {P : α → Prop} (h : EvP B O ta σ G P) (s : Sx B O G H)
    (k : ∀ x l a G2 H2, P a → Ex G G2 → Sx B ((l, .dK []) :: O) G2 H2 → rp G2 x a → tz D ((σ.set i (some x)).set j (some (.ref l))) H2) :
    tSeq (tAsg (tTup (tCons ta (tCons tDNewK tNil))) (gTup K 2 (gCons (gName i) (gCons (gName j) gNil)))) tz D σ H :=
  h G H Ex.r s _ fun v a G1 H1 p e s1 r => fun l hl => ⟨line_le (by show 2 ≤ 1000000; decide), fun t ht => by
    have s2 := s1.mine (o := .dK []) hl
    exact ⟨t, [v, .ref l], rfl, SqT.of upd_same, rfl, v, [.ref l], rfl, .ref l, [], rfl, rfl, k v l a _ _ p (Ex.t e (s2.grow ht)) (s2.still ht) (Py.up (s2.grow ht) r)⟩⟩
end
theorem trueD_all {G : Hp} : ∀ us : List Str, AllK G (trueD us) (us.map fun x => (x, true))
  | [] => .nil
  | x :: us => .cons ⟨rfl, rfl⟩ (trueD_all us)
theorem putT_nd {l : List Str} {x : Str} (h : l.Nodup) : (putT l x).Nodup := foldl_putT_nd [x] h
section
variable {α β γ : Type} [Py α] [Py β] [Py γ] {B : Option Addr} {O O' : List (Addr × HO)} {te ta tb td tl : TE} {σ : L2.St} {G H : Hp}
/-- x not in d, x in d -/
theorem ev_dnotinB {d : Dct β} {x : Str} (h : EvD B O ta σ G x) (hd : EvD B O td σ G d) (nd : (d.items.map (·.1)).Nodup) : EvD B O (tDNotIn ta td) σ G (!decide (x ∈ d.items.map (·.1))) := fun G1 H1 e s Q q =>
  h G1 H1 e s _ fun v x' G2 H2 p e2 s2 rx => hd G2 H2 (Ex.t e e2) s2 _ fun u d' G3 H3 p3 e3 s3 ⟨a, kvs, ev, ha, ra⟩ => by
    have p : x' = x := p
    have p3 : d' = d := p3
    subst p; subst p3; subst ev; cases rx
    refine ⟨a, valV kvs (.inr x'), rfl, .inl ⟨kvs, .inr x', .of (s3.ex a _ ha), rfl, rfl⟩, q _ _ G3 H3 rfl (Ex.t e2 e3) s3 ?_⟩
    by_cases h : x' ∈ d'.items.map (·.1)
    · obtain ⟨⟨y, c⟩, hc, rfl⟩ := List.mem_map.mp h
      obtain ⟨w, hw, _⟩ := allK_get ra nd hc
      rw [hw, decide_eq_true h]; rfl
    · rw [allK_none ra h, decide_eq_false h]; rfl
end
theorem rel2_memL {α β : Type} {R : α → β → Prop} {xs : List α} {ys : List β} (h : Rel2 R xs ys) {x : α} (hx : x ∈ xs) : ∃ y, y ∈ ys ∧ R x y := by
  induction h with
  | nil => cases hx
  | cons a b ih =>
    rcases List.mem_cons.mp hx with rfl | hx
    · exact ⟨_, List.mem_cons_self .., a⟩
    · obtain ⟨y, hy, r⟩ := ih hx
      exact ⟨y, List.mem_cons_of_mem _ hy, r⟩
/-- two lists in order of different texts, of the same texts -/
theorem sorted_same {xs ys : List Str} (h1 : xs.Pairwise fun x y => ltS y x = false) (h2 : ys.Pairwise fun x y => ltS y x = false) (n1 : xs.Nodup) (n2 : ys.Nodup) (h : ∀ x, x ∈ xs ↔ x ∈ ys) : xs = ys :=
  sorted_eq ((List.perm_ext_iff_of_nodup n1 n2).mpr h) h1 h2
end Dk

set_option Elab.async false
set_option linter.all false
set_option maxRecDepth 100000
set_option maxHeartbeats 1000000
namespace Dk
open PySem PySem.Spec PyProof.Rows L2
open Evl (Ex)
open Py (rp)
open PyD (pic)
section
variable {α β γ δ : Type} [Py α] [Py β] [Py γ] [Py δ]
instance [Firm α] : Firm (Option α) := ⟨fun {G l vs v x} hl h => match x, h with
  | none, h => h
  | some _, h => Firm.keep (β := α) hl h⟩
variable {B : Option Addr} {O O' : List (Addr × HO)} {te ta tb td tl : TE} {tt : TT} {ts tz : TS} {g : TG} {σ : L2.St} {G H : Hp} {K : PySem.W.Frag} {D : Ends} {w : World}
/-- one's own list lent, with a bag or without -/
theorem ev_lendF [Firm α] {l : Addr} {vs : List V} {P : α → Prop} (h : ∀ O2, EvP none O2 te σ (upd G l (.lst vs)) P) (hG : G l = none) : EvP B ((l, .lst vs) :: O) te σ G P := fun G1 H1 e s Q q => by
  cases B with
  | none =>
    have g1 := s.head.2
    obtain ⟨s2, x2⟩ := s.freeze
    refine h _ _ H1 (ex_upd2 e) s2 Q fun v a G2 H2 p e3 s3 r => ?_
    have hl : G2 l = some (.lst vs) := e3 l _ upd_same
    exact q v a (del G2 l) H2 p (ex_del g1 e3) (s3.thaw0 hl) (Firm.keep hl r)
  | some b =>
    obtain ⟨z0, z1, z2, c, cells, hz, hc, s1⟩ := s.bagOwn
    obtain ⟨s2, x2⟩ := (s1.swap).freeze
    have g1 : G1 l = none := s1.swap.head.2
    have cl : c ≠ l := ne_of_none hc g1
    refine h _ _ H1 (ex_upd2 e) s2 Q fun v a G2 H2 p e3 s3 r => ?_
    have hl : G2 l = some (.lst vs) := e3 l _ upd_same
    have s4 := (s3.thaw0 hl).swap
    refine q v a (del G2 l) H2 p (ex_del g1 e3) (s4.bagBack hz (cells := cells) ?_) (Firm.keep hl r)
    rw [del_ne cl]
    exact e3 c _ (by rw [upd_ne cl]; exact hc)
/-- for x in reversed(xs) -/
theorem q_forV {P : List α → Prop} (h : EvP B O tl σ G P) (s : Sx B O G H) (U : List α → Word) (h0 : ∀ xs G2, P xs → Ex G G2 → U xs 0 σ G2 O)
    (hs : ∀ xs G1 i x v σ2 G2 H2 O2, P xs → Ex G G1 → xs.reverse[i]? = some x → Ex G1 G2 → Sx B O2 G2 H2 → rp G2 v x → U xs i σ2 G2 O2 → g v σ2 H2 fun σ3 H3 => ts { D with nx := Jw B G1 (U xs) (i + 1), ct := Jw B G1 (U xs) (i + 1), bk := tz D } σ3 H3)
    (hd : ∀ xs σ2 G2 H2 O2, P xs → Ex G G2 → Sx B O2 G2 H2 → U xs xs.length σ2 G2 O2 → tz D σ2 H2) : tSeq (tFor (iRev K (tCons tl tNil)) g ts) tz D σ H :=
  h G H Ex.r s _ fun v xs G1 H1 p e s1 ⟨a, vs, ev, ha, ra⟩ => ⟨a, vs, by rw [ev], SqL.of (s1.ex a _ ha), for_it (D := { D with nx := tz D }) (walk_rev (xs := vs)) (Jw B G1 (U xs)) ⟨G1, O, Ex.r, s1, h0 xs G1 p e⟩
    (fun i σ2 H2 _ ⟨G2, O2, e2, s2, _⟩ => SqL.of (s2.ex a _ (e2 a _ ha)))
    (fun i y σ2 H2 H3 hi ⟨G2, O2, e2, s2, u⟩ ⟨eH, hy⟩ => by
      subst eH
      have hr := all2_rev ra
      have hy2 : vs.reverse[i]? = some y := by rw [List.getElem?_reverse hi]; exact hy
      obtain ⟨x, hx, rx⟩ := all2_getV hr hy2
      exact hs xs G1 i x y σ2 G2 _ O2 p e hx e2 s2 (Py.up e2 rx) u)
    (fun σ2 H2 ⟨G2, O2, e2, s2, u⟩ => hd xs σ2 G2 H2 O2 p (Ex.t e e2) s2 (by rw [all2_len ra] at u; exact u))⟩
/-- x in (None, y), x a text or None -/
theorem o2_notInPair {x : Option Str} {y : Str} : Op2 (rNotInAny K) x ((none : Option Str), y) (· = !(decide (x = none) || decide (x = some y))) := fun B O G H v w s hv hw Q q => by
  obtain ⟨a, u1, u2, rfl, ha, r1, r2⟩ := hw
  have r1 : u1 = .non := r1
  subst r1
  cases r2
  have fl : flatV v = true := by
    cases x with
    | none => rw [show v = .non from hv]; rfl
    | some z => rw [show v = .str z from hv]; rfl
  refine .inl ⟨a, [.non, .str y], rfl, .inr (SqT.of (s.ex a _ ha)), fl, by rfl, q _ _ G H rfl Ex.r s ?_⟩
  cases x with
  | none => rw [show v = .non from hv]; rfl
  | some z =>
    rw [show v = .str z from hv]
    have e1 : inV (.str z) [.non, .str y] = decide (y = z) := by
      unfold inV
      simp only [List.any_cons, List.any_nil, Bool.or_false]
      show (false || (y == z)) = _
      rw [Bool.false_or]
      by_cases e : y = z
      · rw [decide_eq_true e, e]; exact beq_self_eq_true z
      · rw [decide_eq_false e]; exact beq_eq_false_iff_ne.mpr e
    show V.bl _ = V.bl _
    rw [e1]
    congr 1
    by_cases e : z = y
    · subst e; simp
    · have e' : ¬ y = z := fun q => e q.symm
      simp [e, e']
theorem g_nest {i j k : Nat} {v : V} {a : α} {b : β} {c : γ} {Q : L2.St → Hp → Prop} (r : rp G v (a, (b, c))) (s : Sx B O G H) (kk : ∀ x y z, rp G x a → rp G y b → rp G z c → Q (((σ.set i (some x)).set j (some y)).set k (some z)) H) : gTup K 2 (gCons (gName i) (gCons (gTup K 2 (gCons (gName j) (gCons (gName k) gNil))) gNil)) v σ H Q := by
  obtain ⟨p, x, y, rfl, hp, rx, ry⟩ := r
  obtain ⟨p2, y2, z2, rfl, hp2, ry2, rz2⟩ := ry
  exact ⟨p, [x, .ref p2], rfl, SqT.of (s.ex p _ hp), rfl, x, [.ref p2], rfl, .ref p2, [], rfl, ⟨p2, [y2, z2], rfl, SqT.of (s.ex p2 _ hp2), rfl, y2, [z2], rfl, z2, [], rfl, rfl, rfl, kk x y2 z2 rx ry2 rz2⟩⟩
/-- l, x = a new list, e -/
theorem q_parN1 {i j : Nat} {P : List α → Prop} {R : β → Prop} (h : EvN B O ta σ G P) (h' : ∀ p vs G2, Ex G G2 → EvP B ((p, .lst vs) :: O) tb σ G2 R) (s : Sx B O G H)
    (k : ∀ l vs xs y b G2 H2, P xs → R b → Ex G G2 → Sx B ((l, .lst vs) :: O) G2 H2 → All2 G2 vs xs → rp G2 y b → tz D ((σ.set i (some (.ref l))).set j (some y)) H2) :
    tSeq (tPar i j (tCons ta (tCons tb tNil))) tz D σ H := h G H Ex.r s _ fun l vs xs G2 H2 p e s2 r => h' l vs G2 e G2 H2 Ex.r s2 _ fun w b G3 H3 p3 e3 s3 r3 => ⟨.ref l, w, rfl, k l vs xs w b G3 H3 p p3 (Ex.t e e3) s3 (all2_up e3 r) r3⟩
/-- x, l = e, a new list -/
theorem q_parN2 {i j : Nat} {P : α → Prop} {R : List β → Prop} (h : EvP B O ta σ G P) (h' : EvN B O tb σ G R) (s : Sx B O G H)
    (k : ∀ x l a ws ys G2 H2, P a → R ys → Ex G G2 → Sx B ((l, .lst ws) :: O) G2 H2 → rp G2 x a → All2 G2 ws ys → tz D ((σ.set i (some x)).set j (some (.ref l))) H2) :
    tSeq (tPar i j (tCons ta (tCons tb tNil))) tz D σ H := h G H Ex.r s _ fun v a G2 H2 p e s2 r => h' G2 H2 e s2 _ fun l ws ys G3 H3 p3 e3 s3 r3 => ⟨v, .ref l, rfl, k v l a ws ys G3 H3 p p3 (Ex.t e e3) s3 (Py.up e3 r) r3⟩
/-- l[j] = e, l one's own -/
theorem s_putAt {i : Nat} {l : Addr} {vs : List V} {P : α → Prop} {j : Int} (hv : σ[i]? = some (some (.ref l))) (h : EvP B ((l, .lst vs) :: O) te σ G P) (h' : ∀ G2, Ex G G2 → EvD B ((l, .lst vs) :: O) ta σ G2 j) (h0 : 0 ≤ j) (hj : j.toNat < vs.length) (s : Sx B ((l, .lst vs) :: O) G H)
    (k : ∀ v a G2 H2, P a → Ex G G2 → Sx B ((l, .lst (vs.set j.toNat v)) :: O) G2 H2 → rp G2 v a → D.nx σ H2) : tAsg te (gSub (tVar i) ta rSetL) D σ H :=
  h G H Ex.r s _ fun v a G2 H2 p e s2 r => ⟨_, hv, h' G2 e G2 H2 Ex.r s2 _ fun w j' G3 H3 pj e3 s3 rw => by
    have p' : j' = j := pj
    subst p'
    refine ⟨l, vs, j', _, rfl, rw, s3.head.1, ?_, k v a G3 _ p (Ex.t e e3) s3.put (Py.up e3 r)⟩
    have e5 : j' = (j'.toNat : Int) := (Int.toNat_of_nonneg h0).symm
    rw [e5]
    exact Evl.ixN_nat hj⟩
/-- n or z, n an int or None -/
theorem ev_orI {o : Option Int} {z : Int} (h : EvD B O ta σ G o) (h' : EvD B O tb σ G z) : EvP B O (tOrT K ta tb) σ G fun r : Int => r = (match o with | none => z | some i => if i = 0 then z else i) := fun G1 H1 e s Q q =>
  h G1 H1 e s _ fun v o' G2 H2 p e2 s2 rv => by
    have p : o' = o := p
    subst p
    cases o' with
    | none =>
      have rv : v = .non := rv
      subst rv
      exact ⟨false, rfl, h' G2 H2 (Ex.t e e2) s2 _ fun w y G3 H3 p3 e3 s3 rw => q w y G3 H3 p3 (Ex.t e2 e3) s3 rw⟩
    | some i =>
      have rv : v = .int i := rv
      subst rv
      by_cases hi : i = 0
      · refine ⟨false, by show false = (i != 0); rw [hi]; rfl, h' G2 H2 (Ex.t e e2) s2 _ fun w y G3 H3 p3 e3 s3 rw => q w y G3 H3 ?_ (Ex.t e2 e3) s3 rw⟩
        show y = if i = 0 then z else i
        rw [if_pos hi]
        exact p3
      · refine ⟨true, by show true = (i != 0); exact (bne_iff_ne.mpr hi).symm, q (.int i) i G2 H2 ?_ e2 s2 rfl⟩
        show i = if i = 0 then z else i
        rw [if_neg hi]
end
instance : PyD (Option Int) where
  pic := fun o => match o with | none => .none | some i => .int i
  ok := fun _ => True
  okr := fun o => match o with | none => True | some i => i.natAbs < 10 ^ 12
  size := fun _ => 0
  deep := 0
  dp := fun {K G H v a} _ h => match a, h with
    | none, h => by rw [show v = .non from h]; exact .non
    | some i, h => by rw [show v = .int i from h]; exact .int _
  lay := fun {a} _ => by cases a <;> simp only [PyData.canLay0]
  dep := fun a => by cases a <;> simp only [PyData.depth] <;> omega
  eqd := fun a b => by
    cases a <;> cases b <;> simp only [PyData.eqv]
    · rfl
    · simp
    · simp
    · rename_i x y
      by_cases e : x = y <;> simp [e]
  sh := fun {a} h => by
    cases a with
    | none => exact ⟨by simp only [PyData.leavesShort], by simp only [PyData.showable], by simp only [PyData.hasDict]⟩
    | some i => exact ⟨by simp only [PyData.leavesShort, decide_eq_true_eq]; exact (int_short h).1, by simp only [PyData.showable, decide_eq_true_eq]; exact (int_short h).2, by simp only [PyData.hasDict]⟩
  bk := fun a => by cases a <;> simp only [PyData.bulk] <;> omega
end Dk

set_option Elab.async false
set_option linter.all false
set_option maxRecDepth 100000
set_option maxHeartbeats 1000000
namespace Dk
open PySem PySem.Spec PyProof.Rows L2
open Evl (Ex)
open Py (rp)
section
variable {α β γ δ : Type} [Py α] [Py β] [Py γ] [Py δ] {B : Option Addr} {O O' : List (Addr × HO)} {te ta tb td tl : TE} {tt : TT} {ts tz : TS} {g : TG} {σ : L2.St} {G H : Hp} {K : PySem.W.Frag} {D : Ends} {w : World}
theorem q_drop {P : α → Prop} (h : EvP B O te σ G P) (s : Sx B O G H) (k : ∀ G2 H2, Ex G G2 → Sx B O G2 H2 → tz D σ H2) : tSeq (tDrop te) tz D σ H := h G H Ex.r s _ fun v a G2 H2 p e s2 r => k G2 H2 e s2
/-- return a if t else b -/
theorem s_retIf {b : Bool} (h : EtD B O tt σ G b) (s : Sx B O G H) (h1 : ∀ G2 H2, b = true → Ex G G2 → Sx B O G2 H2 → tRet ta D σ H2) (h2 : ∀ G2 H2, b = false → Ex G G2 → Sx B O G2 H2 → tRet tb D σ H2) : tRet (tIf tt ta tb) D σ H :=
  h G H Ex.r s _ fun c G2 H2 p e s2 => by
    have p : c = b := p
    subst p
    cases c with
    | true => exact h1 G2 H2 rfl e s2
    | false => exact h2 G2 H2 rfl e s2
theorem o2_isNone {x : Option Str} : Op2 (fun x y H Q => y = V.non ∧ Q (.bl (decide (x = V.non))) H) x (none : Option β) (· = decide (x = none)) := fun B O G H v w s hv hw Q q => ⟨hw, by
  cases x with
  | none =>
    rw [show v = .non from hv]
    exact q _ _ G H rfl Ex.r s rfl
  | some z =>
    rw [show v = .str z from hv]
    exact q _ _ G H rfl Ex.r s rfl⟩
/-- l.extend(e), e a new list -/
theorem s_extend {i : Nat} {l : Addr} {vs : List V} {P : List α → Prop} (hv : σ[i]? = some (some (.ref l))) (h : EvN B ((l, .lst vs) :: O) te σ G P) (s : Sx B ((l, .lst vs) :: O) G H) (hz : ∀ ys, P ys → vs.length + ys.length ≤ 1000000)
    (k : ∀ ws ys G2 H2, P ys → Ex G G2 → Sx B ((l, .lst (vs ++ ws)) :: O) G2 H2 → All2 G2 ws ys → D.nx σ H2) : tDrop (tBM K "list" rExtend (tVar i) (tCons te tNil)) D σ H :=
  ⟨.ref l, hv, .inl ⟨rfl, vs, SqL.of s.head.1⟩, h G H Ex.r s _ fun b ws ys G2 H2 p e s2 r => by
    have hlen := all2_len r
    exact ⟨l, b, vs, ws, rfl, rfl, s2.swap.head.1, s2.head.1, line_le (by rw [hlen]; exact hz ys p), k ws ys G2 _ p e (s2.swap.put (o' := .lst (vs ++ ws))).swap.drop r⟩⟩
theorem s_clear {i : Nat} {l : Addr} {vs : List V} (hv : σ[i]? = some (some (.ref l))) (s : Sx B ((l, .lst vs) :: O) G H) (k : ∀ H2, Sx B ((l, .lst []) :: O) G H2 → D.nx σ H2) : tDrop (tBM K "list" rClear (tVar i) tNil) D σ H :=
  ⟨.ref l, hv, .inl ⟨rfl, vs, SqL.of s.head.1⟩, l, vs, rfl, rfl, s.head.1, k _ s.put⟩
end
end Dk

set_option Elab.async false
set_option linter.all false
set_option maxRecDepth 100000
set_option maxHeartbeats 1000000
namespace Dk
open PySem PySem.Spec PyProof.Rows L2
open Evl (Ex)
open Py (rp)
theorem maxQ {X : Cx} {K : PySem.W.Frag} (hc : X.calm = true) (h : X.K = K) : CallR X (.builtin "max") (rMax K) := h ▸ cr_max hc
theorem indexQ {X : Cx} {K : PySem.W.Frag} (h : X.K = K) : MtR X "list.index" (rIndex K) := h ▸ mt_index
/-- a method of a built-in type, in a block of its own too -/
theorem pe_bmQ {X : Cx} {K : PySem.W.Frag} {o e : Expr} {es : List Expr} {to : TE} {t : TA} {name : Str} {apos cpos : Pos} {T id : String} {r : V → List V → Hp → VK → Prop} (hK : X.K = K) (pa : PlainAttrs T) (sl : Slot T name id) (hty : typeOf (Value.builtin id) = pure (Value.type "method_descriptor")) (hm : MtR X id r) (ho : PE X o to) (ha : PA X (e :: es) t)
    (h1 : attributeBase o name X.env (eval o X.env) = eval o X.env := by rfl)
    (h2 : ((((backTo cpos (starEach (e :: es) X.env)).all fun x => !x.fst) && (backToKw cpos (keywordEach [] X.env)).all fun x => x.fst.isSome) && decide (((e :: es).length + ([] : List Expr).length + if ([] : List Expr).isEmpty = true then 0 else 1) < 30)) = true := by rfl)
    (h3 : (apos.endLine == cpos.line) = true := by rfl) (h4 : starEach (e :: es) X.env = (false, eval e X.env) :: starEach es X.env := by rfl) (h5 : ((backTo cpos (starEach es X.env)).any fun x => x.fst) = false := by rfl) :
    PE X ((o.Attribute name apos).Call (e :: es) [] cpos) (tBM K T r to t) := hK ▸ pe_bm pa sl hty hm ho ha h1 h2 h3 h4 h5
/-- the first place of a text, the length if there is none -/
def idxS (xs : List Str) (x : Str) : Nat := xs.findIdx fun y => decide (y = x)
section
variable {α β γ δ : Type} [Py α] [Py β] [Py γ] [Py δ] {B : Option Addr} {O O' : List (Addr × HO)} {te ta tb td tl : TE} {tt : TT} {ts tz : TS} {g : TG} {σ : L2.St} {G H : Hp} {K : PySem.W.Frag} {D : Ends} {w : World}
theorem ev_maxL {P : List Int → Prop} (h : EvP B O te σ G P) (hne : ∀ xs, P xs → xs ≠ []) : EvP B O (tCB (rMax K) (tCons te tNil)) σ G fun m : Int => ∃ xs, P xs ∧ m ∈ xs ∧ ∀ y ∈ xs, y ≤ m := fun G1 H1 e s Q q =>
  h G1 H1 e s _ fun v xs G2 H2 p e2 s2 ⟨a, vs, ev, ha, ra⟩ => ⟨a, xs, by rw [ev], SqL.of (s2.ex a _ (by rw [ha, all2_ints ra])), List.length_pos_iff.mpr (hne xs p), fun m hm hle => q _ m G2 H2 ⟨xs, p, hm, hle⟩ e2 s2 rfl⟩
theorem idxS_lt {xs : List Str} {x : Str} (h : x ∈ xs) : idxS xs x < xs.length := List.findIdx_lt_length_of_exists ⟨x, h, decide_eq_true rfl⟩
theorem idxS_at {xs : List Str} {x : Str} (h : x ∈ xs) : xs[idxS xs x]? = some x := by
  have hl := idxS_lt h
  have := List.findIdx_getElem (p := fun y => decide (y = x)) (xs := xs) (w := hl)
  rw [List.getElem?_eq_getElem hl]
  exact congrArg some (of_decide_eq_true this)
theorem idxS_no {xs : List Str} {x : Str} {m : Nat} {z : Str} (hm : m < idxS xs x) (hz : xs[m]? = some z) : z ≠ x := fun e => by
  have := List.not_of_lt_findIdx (p := fun y => decide (y = x)) (xs := xs) hm
  obtain ⟨hl, e2⟩ := List.getElem?_eq_some_iff.mp hz
  rw [e2] at this
  have this : decide (z = x) = false := this
  exact absurd e (of_decide_eq_false this)
theorem idxS_cons {xs : List Str} {x y : Str} : idxS (y :: xs) x = if y = x then 0 else idxS xs x + 1 := by
  unfold idxS
  rw [List.findIdx_cons]
  by_cases h : y = x
  · rw [if_pos h, decide_eq_true h]; rfl
  · rw [if_neg h, decide_eq_false h]; rfl
theorem ev_index {xs : List Str} {x : Str} (h : EvD B O te σ G xs) (h' : EvD B O ta σ G x) (hx : x ∈ xs) : EvD B O (tBM K "list" (rIndex K) te (tCons ta tNil)) σ G ((idxS xs x : Nat) : Int) := fun G1 H1 e s Q q =>
  h G1 H1 e s _ fun v ys G2 H2 p e2 s2 r => by
    have p : ys = xs := p
    subst p
    obtain ⟨a, vs, rfl, ha, ra⟩ := r
    refine ⟨.inl ⟨rfl, vs, SqL.of (s2.ex a _ ha)⟩, h' G2 H2 (Ex.t e e2) s2 _ fun w y G3 H3 py e3 s3 rw => ?_⟩
    have py : y = x := py
    subst py
    have rw : w = .str y := rw
    subst rw
    have ev := all2_strs ra
    refine ⟨a, vs, .str y, idxS ys y, .str y, rfl, rfl, SqL.of (s3.ex a _ (e3 a _ ha)), rfl, ?_, ?_, ?_, ?_, q _ _ G3 H3 rfl (Ex.t e2 e3) s3 rfl⟩
    · rw [ev]; exact Dk.flat_strs ys
    · rw [ev, List.getElem?_map, idxS_at hx]; rfl
    · exact beq_self_eq_true y
    · intro m z' hm hz
      rw [ev, List.getElem?_map] at hz
      obtain ⟨z, hz2, rfl⟩ := Option.map_eq_some_iff.mp hz
      exact beq_false_of_ne (idxS_no hm hz2)
end
end Dk

set_option Elab.async false
set_option linter.all false
set_option maxRecDepth 100000
set_option maxHeartbeats 1000000
namespace Dk
open PySem PySem.Spec PyProof.Rows L2
open Evl (Ex)
open Py (rp)
open PyD (pic)
theorem inDQ {X : Cx} {K : PySem.W.Frag} (h : X.K = K) (hu : X.A.units + 65 < cLine) : OpR X (compareOp .In) (rInD K) := h ▸ op_inD hu
theorem notInDQ {X : Cx} {K : PySem.W.Frag} (h : X.K = K) (hu : X.A.units + 65 < cLine) : OpR X (compareOp .NotIn) (rNotInD K) := h ▸ op_notInD hu
/-- a tuple of two texts and a text or None -/
structure Tri where
  w : Str
  d : Str
  o : Option Str
instance : Py Tri := ⟨fun G v t => ∃ a x, v = .ref a ∧ G a = some (.tup [.str t.w, .str t.d, x]) ∧ rp G x t.o, fun e ⟨a, x, h1, h2, h3⟩ => ⟨a, x, h1, e a _ h2, Py.up e h3⟩⟩
instance : Firm Tri := ⟨fun {G l vs v t} hl h => by
  obtain ⟨a, x, h1, h2, h3⟩ := h
  refine ⟨a, x, h1, ?_, Firm.keep hl h3⟩
  rw [del_ne fun e => ?_]
  · exact h2
  · rw [e, hl] at h2
    cases h2⟩
section
variable {α β γ δ : Type} [Py α] [Py β] [Py γ] [Py δ] {B : Option Addr} {O O' : List (Addr × HO)} {te ta tb tc td tl tf : TE} {tt : TT} {ts tz : TS} {g : TG} {σ : L2.St} {G H : Hp} {K : PySem.W.Frag} {D : Ends} {w : World}
theorem o2_inP {α : Type} [DecidableEq α] [PyD α] {x : α} {xs : List α} [hdec : Decidable (x ∈ xs)] (hx : PyD.ok x) (hxs : PyD.ok xs) (hd : PyD.deep α ≤ 39 := by decide) : Op2 (rInD K) x xs (· = decide (x ∈ xs)) := fun B O G H v w s hv hw Q q =>
  ⟨pic x, xs.map pic, PyD.dp s.ex hv, PyD.dp s.ex hw, shaped_pic hx (by omega), shaped_pic hxs (by show PyD.deep α + 1 ≤ 40; omega), q _ _ G H rfl Ex.r s (by
    show V.bl _ = V.bl _
    congr 1
    rw [List.any_map, Bool.eq_iff_iff, List.any_eq_true, decide_eq_true_iff]
    constructor
    · rintro ⟨y, hy, e⟩
      have e : PyData.eqv (pic y) (pic x) = true := e
      rw [PyD.eqd] at e
      rw [← of_decide_eq_true e]
      exact hy
    · exact fun h => ⟨x, h, by show PyData.eqv (pic x) (pic x) = true; rw [PyD.eqd]; exact decide_eq_true rfl⟩)⟩
theorem o2_notInP {α : Type} [DecidableEq α] [PyD α] {x : α} {xs : List α} [hdec : Decidable (x ∈ xs)] (hx : PyD.ok x) (hxs : PyD.ok xs) (hd : PyD.deep α ≤ 39 := by decide) : Op2 (rNotInD K) x xs (· = !decide (x ∈ xs)) := fun B O G H v w s hv hw Q q =>
  ⟨pic x, xs.map pic, PyD.dp s.ex hv, PyD.dp s.ex hw, shaped_pic hx (by omega), shaped_pic hxs (by show PyD.deep α + 1 ≤ 40; omega), q _ _ G H rfl Ex.r s (by
    show V.bl _ = V.bl _
    congr 2
    rw [List.any_map, Bool.eq_iff_iff, List.any_eq_true, decide_eq_true_iff]
    constructor
    · rintro ⟨y, hy, e⟩
      have e : PyData.eqv (pic y) (pic x) = true := e
      rw [PyD.eqd] at e
      rw [← of_decide_eq_true e]
      exact hy
    · exact fun h => ⟨x, h, by show PyData.eqv (pic x) (pic x) = true; rw [PyD.eqd]; exact decide_eq_true rfl⟩)⟩
theorem ev_tri {x y : Str} {z : Option Str} (h : EvD B O ta σ G x) (h' : EvD B O tb σ G y) (h'' : EvD B O tc σ G z) : EvD B O (tTup (tCons ta (tCons tb (tCons tc tNil)))) σ G (Tri.mk x y z) := fun G1 H1 e s Q q =>
  h G1 H1 e s _ fun v a G2 H2 p e2 s2 r => h' G2 H2 (Ex.t e e2) s2 _ fun w b G3 H3 p3 e3 s3 r3 => h'' G3 H3 (Ex.t e (Ex.t e2 e3)) s3 _ fun u c G4 H4 p4 e4 s4 r4 => by
    have p : a = x := p
    have p3 : b = y := p3
    have p4 : c = z := p4
    subst p; subst p3; subst p4
    have r : v = .str a := r
    have r3 : w = .str b := r3
    subst r; subst r3
    exact ⟨line_le (by show 3 ≤ 1000000; decide), fun l hl => q (.ref l) (Tri.mk a b c) _ _ rfl (Ex.t (Ex.t e2 (Ex.t e3 e4)) (s4.grow hl)) (s4.still hl) ⟨l, u, rfl, upd_same, Py.up (s4.grow hl) r4⟩⟩
theorem o2_t0 {t : Tri} : Op2 (rIx K) t (0 : Int) (· = t.w) := fun B O G H v w s hv hw Q q => by
  obtain ⟨p, x, rfl, hp, rx⟩ := hv
  exact .inr (.inl ⟨p, _, 0, .str t.w, rfl, hw, SqT.of (s.ex p _ hp), rfl, q _ t.w G H rfl Ex.r s rfl⟩)
theorem o2_t1 {t : Tri} : Op2 (rIx K) t (1 : Int) (· = t.d) := fun B O G H v w s hv hw Q q => by
  obtain ⟨p, x, rfl, hp, rx⟩ := hv
  exact .inr (.inl ⟨p, _, 1, .str t.d, rfl, hw, SqT.of (s.ex p _ hp), rfl, q _ t.d G H rfl Ex.r s rfl⟩)
theorem o2_t2 {t : Tri} : Op2 (rIx K) t (2 : Int) (· = t.o) := fun B O G H v w s hv hw Q q => by
  obtain ⟨p, x, rfl, hp, rx⟩ := hv
  exact .inr (.inl ⟨p, _, 2, x, rfl, hw, SqT.of (s.ex p _ hp), rfl, q _ t.o G H rfl Ex.r s rx⟩)
theorem ev_isiT {t : Tri} (h : EvD B O te σ G t) : EvD B O (tCB (rIsi K) (tCons te (tCons (tC (.ty "tuple")) tNil))) σ G true := fun G1 H1 e s Q q =>
  h G1 H1 e s _ fun v x G2 H2 p e2 s2 ⟨a, x1, ev, ha, _⟩ => ⟨v, _, .type "tuple", .type "tuple", true, rfl, .ty _, by rw [ev]; exact .base (.tup (s2.ex a _ ha)), rfl, q _ _ G2 H2 rfl e2 s2 rfl⟩
theorem ev_lenT {t : Tri} (h : EvD B O te σ G t) : EvD B O (tCB (rLen K) (tCons te tNil)) σ G (3 : Int) := fun G1 H1 e s Q q =>
  h G1 H1 e s _ fun v x G2 H2 p e2 s2 ⟨a, x1, ev, ha, _⟩ => ⟨v, 3, rfl, by rw [ev]; exact .inr ⟨_, SqT.of (s2.ex a _ ha), rfl⟩, q _ _ G2 H2 rfl e2 s2 rfl⟩
/-- x, y, z = a tuple of three -/
theorem q_unpT {i j l : Nat} {t : Tri} (h : EvD B O te σ G t) (s : Sx B O G H) (k : ∀ z G2 H2, Ex G G2 → Sx B O G2 H2 → rp G2 z t.o → tz D (((σ.set i (some (.str t.w))).set j (some (.str t.d))).set l (some z)) H2) :
    tSeq (tAsg te (gTup K 3 (gCons (gName i) (gCons (gName j) (gCons (gName l) gNil))))) tz D σ H := h G H Ex.r s _ fun v t' G2 H2 p e2 s2 r => by
  have p : t' = t := p
  subst p
  obtain ⟨a, x, rfl, ha, rx⟩ := r
  exact ⟨a, [.str t'.w, .str t'.d, x], rfl, SqT.of (s2.ex a _ ha), rfl, _, _, rfl, _, _, rfl, _, [], rfl, rfl, k x G2 H2 e2 s2 rx⟩
theorem o2_notNone {x : Option Str} : Op2 (fun x y H Q => y = V.non ∧ Q (.bl (!decide (x = V.non))) H) x (none : Option Str) (· = !decide (x = none)) := fun B O G H v w s hv hw Q q => ⟨hw, by
  cases x with
  | none =>
    rw [show v = .non from hv]
    exact q _ _ G H rfl Ex.r s rfl
  | some z =>
    rw [show v = .str z from hv]
    exact q _ _ G H rfl Ex.r s rfl⟩
theorem ev_unsome {z : Str} (h : EvD (α := Option Str) B O te σ G (some z)) : EvD (α := Str) B O te σ G z := fun G1 H1 e s Q q => h G1 H1 e s _ fun v o G2 H2 p e2 s2 r => by
  have p : o = some z := p
  subst p
  exact q v z G2 H2 rfl e2 s2 r
theorem ev_some {P : Str → Prop} (h : EvP (α := Str) B O te σ G P) : EvP (α := Option Str) B O te σ G fun o => ∃ z, o = some z ∧ P z := fun G1 H1 e s Q q => h G1 H1 e s _ fun v z G2 H2 p e2 s2 r => q v (some z) G2 H2 ⟨z, rfl, p⟩ e2 s2 r
theorem o2_isTrue {b c : Bool} : Op2 (fun x y H Q => ∃ a b : Bool, x = V.bl a ∧ y = V.bl b ∧ Q (.bl (!decide (a = b))) H) b c (· = !decide (b = c)) := o2_val fun G H v w hv hw Q q => ⟨b, c, hv, hw, q _ _ rfl rfl⟩
/-- x, y, l = e, e', a new list -/
theorem q_par3N {i j l : Nat} {P : α → Prop} {R : β → Prop} {S : List γ → Prop} (ha : EvP B O ta σ G P) (hb : EvP B O tb σ G R) (hc : EvN B O tc σ G S) (s : Sx B O G H)
    (k : ∀ x y p a b ws xs G2 H2, P a → R b → S xs → Ex G G2 → Sx B ((p, .lst ws) :: O) G2 H2 → rp G2 x a → rp G2 y b → All2 G2 ws xs → tz D (((σ.set i (some x)).set j (some y)).set l (some (.ref p))) H2) :
    tSeq (tPar3 i j l (tCons ta (tCons tb (tCons tc tNil)))) tz D σ H :=
  ha G H Ex.r s _ fun x a G1 H1 pa e1 s1 r1 => hb G1 H1 e1 s1 _ fun y b G2 H2 pb e2 s2 r2 => hc G2 H2 (Ex.t e1 e2) s2 _ fun z ws xs G3 H3 pc e3 s3 r3 =>
    ⟨x, y, .ref z, rfl, k x y z a b ws xs _ _ pa pb pc (Ex.t e1 (Ex.t e2 e3)) s3 (Py.up (Ex.t e2 e3) r1) (Py.up e3 r2) r3⟩
theorem en_revL {xs : List α} (h : EvD B O te σ G xs) : EvM B O (tRevL K te) σ G xs.reverse := fun G1 H1 e s Q q =>
  h G1 H1 e s _ fun v ys G2 H2 p e2 s2 r => by
    have p : ys = xs := p
    subst p
    obtain ⟨a, vs, rfl, ha, ra⟩ := r
    exact ⟨a, vs, rfl, SqL.of (s2.ex a _ ha), fun l hl => q l _ _ G2 _ rfl e2 (s2.mine hl) (all2_rev ra)⟩
theorem et_notP {P : Bool → Prop} (h : EvT B O tt σ G P) : EvT B O (tNot tt) σ G (fun c => ∃ b, c = !b ∧ P b) := fun G1 H1 e s Q q => h G1 H1 e s _ fun b G2 H2 p e2 s2 => q _ G2 H2 ⟨b, rfl, p⟩ e2 s2
theorem ev_lenPP {P : List α → Prop} (h : EvP B O te σ G P) : EvP B O (tCB (rLen K) (tCons te tNil)) σ G fun n : Int => ∃ xs, P xs ∧ n = (xs.length : Int) := fun G1 H1 e s Q q =>
  h G1 H1 e s _ fun v xs G2 H2 p e2 s2 ⟨a, vs, ev, ha, ra⟩ => ⟨v, vs.length, rfl, by rw [ev]; exact .inl ⟨vs, SqL.of (s2.ex a _ ha), rfl⟩, q _ _ G2 H2 ⟨xs, p, by rw [all2_len ra]⟩ e2 s2 rfl⟩
/-- while: the test may speak of what is owned -/
theorem q_whileO {tc : TT} (n : Nat) (U : Word) (C : Nat → L2.St → List (Addr × HO) → Bool → Prop) (s : Sx B O G H) (h0 : U 0 σ G O)
    (ht : ∀ i σ2 G2 O2, i ≤ n → Ex G G2 → U i σ2 G2 O2 → (G2 = G2) → ∀ H2, Sx B O2 G2 H2 → EvT B O2 tc σ2 G2 (C i σ2 O2)) (up : ∀ i σ2 G3 G2 O2, Ex G3 G2 → U i σ2 G3 O2 → U i σ2 G2 O2)
    (hb : ∀ i σ2 G2 H2 O2, i ≤ n → Ex G G2 → Sx B O2 G2 H2 → U i σ2 G2 O2 → C i σ2 O2 true → i < n ∧ ts { D with nx := Jw B G U (i + 1), ct := Jw B G U (i + 1), bk := tz D } σ2 H2)
    (hd : ∀ i σ2 G2 H2 O2, i ≤ n → Ex G G2 → Sx B O2 G2 H2 → U i σ2 G2 O2 → C i σ2 O2 false → tz D σ2 H2) : tSeq (tWhile tc ts) tz D σ H := by
  refine ⟨fun m σ H => ∃ i, m = n - i ∧ i ≤ n ∧ Jw B G U i σ H, ⟨n, 0, rfl, Nat.zero_le _, G, O, Ex.r, s, h0⟩, ?_⟩
  rintro m σ2 H2 ⟨i, rfl, hi, G2, O2, e2, s2, u⟩
  refine ht i σ2 G2 O2 hi e2 u rfl H2 s2 G2 H2 Ex.r s2 _ fun b G3 H3 c e3 s3 => ?_
  cases b with
  | true =>
    obtain ⟨hlt, q⟩ := hb i σ2 G3 H3 O2 hi (Ex.t e2 e3) s3 (up _ _ _ _ _ e3 u) c
    exact ⟨Jw B G U (i + 1), fun σ' H' j => ⟨n - (i + 1), by omega, i + 1, rfl, hlt, j⟩, q⟩
  | false => exact hd i σ2 G3 H3 O2 hi (Ex.t e2 e3) s3 (up _ _ _ _ _ e3 u) c
def a4 [Py α] [Py β] [Py γ] [Py δ] : Ar (α × β × γ × δ) := fun _ G vs p => ∃ v w u t, vs = [v, w, u, t] ∧ rp G v p.1 ∧ rp G w p.2.1 ∧ rp G u p.2.2.1 ∧ rp G t p.2.2.2
def a5 {ε : Type} [Py α] [Py β] [Py γ] [Py δ] [Py ε] : Ar (α × β × γ × δ × ε) := fun _ G vs p => ∃ v w u t z, vs = [v, w, u, t, z] ∧ rp G v p.1 ∧ rp G w p.2.1 ∧ rp G u p.2.2.1 ∧ rp G t p.2.2.2.1 ∧ rp G z p.2.2.2.2
theorem ea_4 {a : α} {b : β} {c : γ} {d : δ} (h1 : EvD B O ta σ G a) (h2 : EvD B O tb σ G b) (h3 : EvD B O tc σ G c) (h4 : EvD B O td σ G d) : EaD B O (tCons ta (tCons tb (tCons tc (tCons td tNil)))) σ G a4 (a, b, c, d) := fun G1 H1 e s Q q =>
  h1 G1 H1 e s _ fun v a' G2 H2 p2 e2 s2 r2 => h2 G2 H2 (Ex.t e e2) s2 _ fun w b' G3 H3 p3 e3 s3 r3 => h3 G3 H3 (Ex.t e (Ex.t e2 e3)) s3 _ fun u c' G4 H4 p4 e4 s4 r4 => h4 G4 H4 (Ex.t e (Ex.t e2 (Ex.t e3 e4))) s4 _ fun t d' G5 H5 p5 e5 s5 r5 =>
    q [v, w, u, t] (a, b, c, d) G5 H5 rfl (Ex.t e2 (Ex.t e3 (Ex.t e4 e5))) s5 ⟨v, w, u, t, rfl, by rw [← p2]; exact Py.up (Ex.t e3 (Ex.t e4 e5)) r2, by rw [← p3]; exact Py.up (Ex.t e4 e5) r3, by rw [← p4]; exact Py.up e5 r4, by rw [← p5]; exact r5⟩
theorem ea_5 {ε : Type} [Py ε] {a : α} {b : β} {c : γ} {d : δ} {f : ε} (h1 : EvD B O ta σ G a) (h2 : EvD B O tb σ G b) (h3 : EvD B O tc σ G c) (h4 : EvD B O td σ G d) (h5 : EvD B O tf σ G f) : EaD B O (tCons ta (tCons tb (tCons tc (tCons td (tCons tf tNil))))) σ G a5 (a, b, c, d, f) := fun G1 H1 e s Q q =>
  h1 G1 H1 e s _ fun v a' G2 H2 p2 e2 s2 r2 => h2 G2 H2 (Ex.t e e2) s2 _ fun w b' G3 H3 p3 e3 s3 r3 => h3 G3 H3 (Ex.t e (Ex.t e2 e3)) s3 _ fun u c' G4 H4 p4 e4 s4 r4 => h4 G4 H4 (Ex.t e (Ex.t e2 (Ex.t e3 e4))) s4 _ fun t d' G5 H5 p5 e5 s5 r5 => h5 G5 H5 (Ex.t e (Ex.t e2 (Ex.t e3 (Ex.t e4 e5)))) s5 _ fun z f' G6 H6 p6 e6 s6 r6 =>
    q [v, w, u, t, z] (a, b, c, d, f) G6 H6 rfl (Ex.t e2 (Ex.t e3 (Ex.t e4 (Ex.t e5 e6)))) s6 ⟨v, w, u, t, z, rfl, by rw [← p2]; exact Py.up (Ex.t e3 (Ex.t e4 (Ex.t e5 e6))) r2, by rw [← p3]; exact Py.up (Ex.t e4 (Ex.t e5 e6)) r3, by rw [← p4]; exact Py.up (Ex.t e5 e6) r4, by rw [← p5]; exact Py.up e6 r5, by rw [← p6]; exact r6⟩
theorem ea_5P {ε : Type} [Py ε] {a : α} {b : β} {c : γ} {R : δ → Prop} {f : ε} (h1 : EvD B O ta σ G a) (h2 : EvD B O tb σ G b) (h3 : EvD B O tc σ G c) (h4 : EvP B O td σ G R) (h5 : EvD B O tf σ G f) : EvA B O (tCons ta (tCons tb (tCons tc (tCons td (tCons tf tNil))))) σ G a5 fun z => ∃ d, R d ∧ z = (a, b, c, d, f) := fun G1 H1 e s Q q =>
  h1 G1 H1 e s _ fun v a' G2 H2 p2 e2 s2 r2 => h2 G2 H2 (Ex.t e e2) s2 _ fun w b' G3 H3 p3 e3 s3 r3 => h3 G3 H3 (Ex.t e (Ex.t e2 e3)) s3 _ fun u c' G4 H4 p4 e4 s4 r4 => h4 G4 H4 (Ex.t e (Ex.t e2 (Ex.t e3 e4))) s4 _ fun t d' G5 H5 p5 e5 s5 r5 => h5 G5 H5 (Ex.t e (Ex.t e2 (Ex.t e3 (Ex.t e4 e5)))) s5 _ fun z f' G6 H6 p6 e6 s6 r6 =>
    q [v, w, u, t, z] (a, b, c, d', f) G6 H6 ⟨d', p5, rfl⟩ (Ex.t e2 (Ex.t e3 (Ex.t e4 (Ex.t e5 e6)))) s6 ⟨v, w, u, t, z, rfl, by rw [← p2]; exact Py.up (Ex.t e3 (Ex.t e4 (Ex.t e5 e6))) r2, by rw [← p3]; exact Py.up (Ex.t e4 (Ex.t e5 e6)) r3, by rw [← p4]; exact Py.up (Ex.t e5 e6) r4, Py.up e6 r5, by rw [← p6]; exact r6⟩
end
end Dk

set_option Elab.async false
set_option linter.all false
set_option maxRecDepth 100000
set_option maxHeartbeats 2000000
/-! isinstance of a caught error that has a dict of its own -/
namespace PySem.W
open PySem PySem.Spec PySem.Calls PyProof.Rows
section
variable {prog : Program} {w : World} {A : Around} {E : Value → Shared → Prop} {s : Shared} {K : Frag} {x D : Addr} {ox : Obj} {od : Option Obj}
theorem dk_find {a g : Value} {nm : Str} (c : (clsIn K D).isSome = true) (f : findIn K (.ref D) nm = some (some a)) (sp : specialIn K a "__get__" = some (some g)) (tk : takesIn K a = some true) : findObj K D od nm = some (.bind g a) := by
  obtain ⟨cd, e⟩ := Option.isSome_iff_exists.mp c
  unfold findObj; rw [e, Option.bind_some, f, Option.bind_some]; simp [sp, tk]
theorem dk_class {Q : Option Value → Shared → Prop} (C : L2.ExcC K D) (X : K.In s.heap) (I : InstAt s.heap x ox D od) (h : Q (some (.ref D)) { s with toks := s.toks + 1 }) : wpAny (model prog w) A (getAttr? (.ref x) "__class__") Q E s := by
  have fo : findObj K D od "__class__" = some (.bind (.builtin "getset_descriptor.__get__") (.builtin "object.__class__")) := dk_find (by obtain ⟨cd, e, _⟩ := any_some C.hd; rw [e]; rfl) C.ha C.hn C.ht
  obtain ⟨hp, g, d, t, os⟩ := s
  have lt := I.type (M := model prog w); have lg := looks_findIn (M := model prog w) X C.hg
  have lk := looks_findIn (M := model prog w) X C.hk; have lf := looks_find (M := model prog w) X I fo
  have si : Looks (model prog w) hp (isInstance (.ref x) (.type "BaseException")) true := lt.andThen (looks_subIn X C.hs)
  have n0 : (false && onTheHeap (Value.builtin "BaseException.__getattribute__")) = false := rfl
  have n1 : (onTheHeap (Value.ref D) && Value.builtin "BaseException.__getattribute__" == Value.builtin "object.__getattribute__") = false := by
    rw [show (Value.builtin "BaseException.__getattribute__" == Value.builtin "object.__getattribute__") = false by decide +kernel]; rfl
  unfold getAttr? getAttrBy? getAttrBy; refine wpAny_bind (wpAny_mkText (wpAny_bind (wpAny_attempt (wpAny_holding (wpAny_bind (lt.at (wpAny_bind (lg.at ?_)))))))); show wpAny _ _ (if (onTheHeap (Value.ref D) && Value.builtin "BaseException.__getattribute__" == Value.builtin "object.__getattribute__") = true then _ else _) _ _ _
  rw [n1, if_neg Bool.false_ne_true]; unfold getAttrByItsOwn hookBefore; refine wpAny_bind ?_
  rw [if_pos (show onTheHeap (Value.ref D) = true from rfl)]; refine lk.at ?_; refine wpAny_bind (wpAny_attempt (wpAny_holding ?_))
  unfold callGetattribute; rw [n0, if_neg Bool.false_ne_true]; unfold boundAndCalled; rw [PySem.F.excAttr_ValueError.ga.bind (.ref x)]; refine wpAny_bind (wpAny_pure ?_); show wpAny _ _ (call (.builtin "BaseException.__getattribute__") [.ref x, .str "__class__" t]) _ _ _; refine wpAny_call (codeAny_call_builtin PySem.F.excAttr_ValueError.ga.plain PySem.F.entry_bexc_ga ?_)
  refine @check_slot (model prog w) _ _ ⟨hp, g, d, t + 1, os⟩ "BaseException.__getattribute__" "BaseException" "__getattribute__" (.ref x) [.str "__class__" t] [] _ (by decide +kernel) (by decide +kernel) si (PySem.F.args_bexc_ga (.ref x) (.str "__class__" t)) ?_
  unfold Builtin.«object.__getattribute__»; refine wpAny_bind (wpAny_of_eq (a := ((Value.ref x : Value), [Value.str "__class__" t])) (by first | rfl | (simp only [slotArgs]; rfl)) ?_)
  refine wpAny_bind (wpAny_pure (wpAny_bind (lt.at (wpAny_bind (lf.at ?_))))); show wpAny _ _ (holding [Value.builtin "object.__class__"] (call (.builtin "getset_descriptor.__get__") [.builtin "object.__class__", .ref x, .ref D]) >>= ret) _ _ _
  refine wpAny_bind (wpAny_holding (wpAny_call (class_get (s := ⟨hp, g, d, t + 1, os⟩) (ox := ox) (od := od) X I C.hm ?_))); refine wpAny_pure ?_; show wpAny _ _ (handedOut (.ref D)) _ _ _
  rw [handedOut_of (v := .ref D) rfl]; first | exact wpAny_pure (wpAny_pure h) | exact wpAny_pure h | exact wpAny_pure (wpAny_bind (wpAny_pure (wpAny_pure h)))
theorem dk_kit (C : L2.ExcC K D) : KitX K (.ref x) (.ref D) (fun h => InstAt h x ox D od) where
  ty := fun _ _ _ I => I.type
  it := fun _ _ X _ => by
    obtain ⟨cdD, e, _⟩ := any_some C.hd; unfold clsIn at e; split at e
    · rename_i c' d' cd' sl' ho; intro A' Q' E' s' k q; unfold isType loadHead; exact wpAny_bind (wpAny_loadPart (k _ _ (X _ _ ho)) (wpAny_pure q))
    · cases e
  ne := fun hh tp dd its n sl X htp => by
    obtain ⟨cdD, e, _⟩ := any_some C.hd; refine Bool.eq_false_iff.mpr fun q => ?_
    have e2 : D = tp := Value.ref.inj (beq_iff_eq.mp q)
    subst e2; unfold clsIn at e; split at e
    · rename_i c' d' cd' sl' ho; have z := (X _ _ ho).symm.trans htp; cases z
    · cases e
  ca := fun X I k => dk_class C X I k
end
end PySem.W
namespace L2
open PySem PySem.Spec PyProof.Rows
/-- isinstance(e, c), e the error that the suite holds at a, dd its own dict -/
def rIsD (K : PySem.W.Frag) (D a dd : Addr) : List V → Hp → VK → Prop := fun xs H Q => (∃ fs, H dd = some (.xd fs)) ∧ rIsE K D a xs H Q
theorem call_isD {X : Cx} {a D dd : Addr} {oe : Obj} {pn : List (Addr × Obj)} (C : ExcC X.K D) (hz : Zc (.ref D) (some dd) oe) (hf : ∃ vs, oe.data = .fields vs) : CallR (X.suite a ((a, oe) :: pn)) (.builtin "isinstance") (rIsD X.K D a dd) := by
  intro pins s σ H xs us Q I r ⟨⟨fs, hd⟩, c, cv, b, e0, hcv, e, q⟩
  subst e0
  cases r with
  | cons rx rr =>
    cases rr with
    | cons rt rr =>
      cases rr; cases rx; have ec := hcv _ rt; subst ec
      obtain ⟨hget, _⟩ := I.pin (a, oe) (List.mem_append.mpr (.inl List.mem_cons_self)); obtain ⟨vs, hv⟩ := hf
      have hx : ObjOk X.prog X.w H s.heap dd (.xd fs) := I.hok dd _ hd
      obtain ⟨mA, hns, _⟩ := hx
      obtain ⟨oo, ho, _⟩ := lookIn_ns hns
      have J : PySem.W.InstAt s.heap a oe D (some oo) := ⟨hget, hz.1, by unfold PySem.W.notCls; rw [hv] <;> rfl, by rw [hz.2]; exact ho⟩
      exact PySem.W.kia_one (PySem.W.dk_kit C) I.kIn J e (fun z => nomatch z) fun tk => ⟨.bl b, H, I.kept (t' := tk) fun _ _ z => z, rfl, q⟩
/-- the same, of whatever is held: the reading says what it is -/
def rIsG (K : PySem.W.Frag) (a : Addr) (cls : Value) (d : Option Addr) : List V → Hp → VK → Prop := fun xs H Q => ∃ D dd, cls = .ref D ∧ d = some dd ∧ ExcC K D ∧ rIsD K D a dd xs H Q
theorem call_isG {X : Cx} {K : PySem.W.Frag} {a : Addr} {cls : Value} {d : Option Addr} {oe : Obj} {pn : List (Addr × Obj)} (hK : X.K = K) (hz : Zc cls d oe) (hf : ∃ vs, oe.data = .fields vs) : CallR (X.suite a ((a, oe) :: pn)) (.builtin "isinstance") (rIsG K a cls d) := by
  subst hK
  intro pins s σ H xs us Q I r ⟨D, dd, e1, e2, C, h⟩
  subst e1; subst e2
  exact call_isD C hz hf pins s σ H xs us Q I r h
end L2

set_option Elab.async false
set_option linter.all false
set_option maxRecDepth 100000
set_option maxHeartbeats 2000000
namespace L2
open PySem PySem.Spec PyProof.Rows
/-- {k: v}, k a tuple -/
def tDisp1T (tk tv : TE) : TE := fun σ H Q => ∀ p, H p = none → tk σ (upd H p (.dT [])) fun x H1 => tv σ H1 fun y H2 => H2 p = some (.dT []) ∧ ∃ b ks, x = .ref b ∧ H2 b = some (.tup (ks.map kV)) ∧ Q (.ref p) (upd H2 p (.dT [(ks, y)]))
theorem pe_disp1T {X : Cx} {pos : Pos} {k v : Expr} {tk tv : TE} (hu : X.A.units + 1 < cLine) (hk : PE X k tk) (hv : PE X v tv) : PE X (.Dict [some k] [v] pos) (tDisp1T tk tv) := by
  refine ⟨fun pins s σ H Q I q => ?_⟩
  have hn := I.hok.fresh (Nat.le_refl s.heap.objs.size)
  have I1 := I.laid (a := s.heap.objs.size) (o := .dT []) (h' := s.heap.push { cls := .type "dict", data := .dict #[] }) (t' := s.toks) (fun _ _ q => Heap.get?_push_of_some _ q) (Nat.le_refl _) (dt_empty s.heap I.big)
  have q1 := q _ hn
  rw [arm_eval_Dict, zip_pairTrees [some k] [v] X.env pos rfl rfl, dictDisplay_pairs (pairTrees [some k] [v] X.env pos) (fun h => nomatch h) (by show 1 < 17; decide)]
  refine wpAny_bind (wpAny_standAt (wpAny_bind ?_))
  unfold subDict
  refine wpAny_bind (wpAny_alloc ?_)
  refine wpAny_bind (wpAny_holding ?_)
  rw [if_pos (show (pairTrees [some k] [v] X.env pos).length ≤ 15 by show 1 ≤ 15; decide)]
  refine wpAny_bind (pairTrees_cons_walk (thn (hk.run pins _ σ _ _ I1 q1) fun u s1 ⟨x, H1, I2, rx, q2⟩ => thn (hv.run pins s1 σ H1 _ I2 q2) fun w2 s2 ⟨y, H2, I3, ry, e, b, ks, ex, eb, q3⟩ => pairTrees_nil_walk ?_))
  subst ex
  cases (show u = Value.ref b from rx)
  obtain ⟨z, hd, xs, rel, dd⟩ := dt_of I3.hok e
  cases rel
  refine wpAny_holding ?_
  refine wpAny_bind ?_
  rw [List.forIn_cons]
  refine wpAny_bind (wpAny_bind (wpAny_dictSet_heap (hsz := Nat.zero_le _) (show X.A.units < cLine from Nat.lt_of_succ_lt hu) (key_of I3.hok eb) dd fun h' dd' hs => wpAny_pure ?_))
  dsimp only
  rw [List.forIn_nil]
  refine wpAny_pure (wpAny_pure (wpAny_pure (wpAny_pure ⟨.ref s.heap.objs.size, _, ?_, rfl, q3⟩)))
  have he : ∃ q, h'.get? s.heap.objs.size = some q := let ⟨q, _, _, hq, _⟩ := dd'; ⟨q, hq⟩
  obtain ⟨o, es, ep, hq, h2, h3, h4, _, h5⟩ := dd'
  refine d_write I3 (by rw [e]; exact True.intro) hs ⟨o, hq⟩ ⟨by show 1 ≤ sizeLine; rw [sizeLine_eq]; omega, hd, _, (KT.put (H := H2) .nil ks eb ry).keeps fun c ys ec => ?_, o, es, ep, hq, h2, h3, h4, h5⟩
  rw [upd_ne (ne_of ec e (fun z => nomatch z))]
  exact ec
end L2
namespace Dk
open PySem PySem.Spec PyProof.Rows L2
section
variable {X : Cx} {CX : CXT} {k n : Nat} {f : Addr} {fd : FuncData} {ps ks : List Str} {sp : Sp} {dvs : List V} {ds : List Value} {E : XK} {x : Str} {p pos : Pos} {e : Expr} {es : List Expr} {kws : List Keyword} {t tk : TA} {g : List Value → List Value → List Value} {gV : List V → List V → List V}
theorem run_fnGD {pins : List (Addr × Obj)} {σ : L2.St} {H : Hp} {s : Shared} {Q : VK} {us : List Value} {vs : List V} (F : FnG X.prog X.w X.K X.mg X.base CX k f fd ps sp) (gd : X.A.guards = some []) (room : Room k X.A)
    (hb : Binds X.K fd ps ds) (hd : Vals dvs ds) (hx : Passes CX X E) (I : Inv X pins σ H s) (r : Vals vs us) (h : sp (vs ++ dvs) H Q E) : wpAny (model X.prog X.w) X.A (call (.ref f) us) (EP X pins σ Q) X.xe s := by
  have r2 := r.append hd
  have bnd := hb s us I.kIn (by rw [← r2.length]; exact F.many _ _ _ _ h)
  refine wpAny_call (codeAny_mono (F.go gd room I.env0 bnd r2 h) ?_)
  intro res s' hq
  match res, hq with
  | .error e, hq => exact hx _ _ _ _ _ _ I hq
  | .ok (.ret u), hq => exact I.after hq
  | .ok .next, hq => exact hq.elim
  | .ok .brk, hq => exact hq.elim
  | .ok .cont, hq => exact hq.elim
/-- f(e, ..), the keyword-only parameters lack -/
theorem pe_callGD (F : FnG X.prog X.w X.K X.mg X.base CX k f fd ps sp) (gd : X.A.guards = some []) (room : Room k X.A) (hg : Gl X x) (hm : X.mg x = some (.ref f)) (hk : PySem.W.keepIn X.K (.ref f) = true) (hbd : ∃ ds, Vals dvs ds ∧ Binds X.K fd ps ds)
    (hx : Passes CX X E) (ha : PA X (e :: es) t) (h1 : (x == ("__debug__" : Str)) = false := by decide) (h2 : starEach (e :: es) X.env = (false, eval e X.env) :: starEach es X.env := by rfl) (h3 : (backTo pos (starEach es X.env)).any (·.1) = false := by rfl) :
    PE X (.Call (.Name x p) (e :: es) [] pos) (tCall sp dvs E t) where
  run := fun pins s σ H Q I h => let ⟨_, hd, hb⟩ := hbd; wpAny_Call_Name_kw (ld_glob I hg hm
    (PySem.W.callWith_K (h₀ := X.base) I.ok.mod.kin hk (thn (ha.run pos pins s σ H _ I h) fun us s1 ⟨vs, H1, I1, r, q⟩ => ⟨I1.kIn, run_fnGD F gd room hb hd hx I1 r q⟩) h2 h3) h1)
theorem run_fnGN {pins : List (Addr × Obj)} {σ : L2.St} {H : Hp} {s : Shared} {Q : VK} {us ws : List Value} {vs zs : List V} (F : FnG X.prog X.w X.K X.mg X.base CX k f fd ps sp) (gd : X.A.guards = some []) (room : Room k X.A) (hb : KBn X.K fd ps n ks g gV) (hx : Passes CX X E)
    (I : Inv X pins σ H s) (r : Vals vs us) (rz : Vals zs ws) (l1 : vs.length = n) (l2 : zs.length = ks.length) (h : sp (gV vs zs) H Q E) : wpAny (model X.prog X.w) X.A (call (.ref f) us (ks.zip ws)) (EP X pins σ Q) X.xe s := by
  refine wpAny_call (codeAny_mono (F.go gd room I.env0 (hb.to s us ws I.kIn (r.length.symm.trans l1) (rz.length.symm.trans l2)) (hb.rel r rz) h) ?_)
  intro res s' hq
  match res, hq with
  | .error e, hq => exact hx _ _ _ _ _ _ I hq
  | .ok (.ret u), hq => exact I.after hq
  | .ok .next, hq => exact hq.elim
  | .ok .brk, hq => exact hq.elim
  | .ok .cont, hq => exact hq.elim
/-- f(e, .., k = v, ..) -/
theorem pe_callGN (F : FnG X.prog X.w X.K X.mg X.base CX k f fd ps sp) (gd : X.A.guards = some []) (room : Room k X.A) (hg : Gl X x) (hm : X.mg x = some (.ref f)) (hk : PySem.W.keepIn X.K (.ref f) = true) (hb : KBn X.K fd ps n ks g gV) (hx : Passes CX X E)
    (ha : PA X (e :: es) t) (hkw : PK X kws tk) (hall : (backToKw pos (keywordEach kws X.env)).all (·.1.isSome) = true := by rfl) (hks : (backToKw pos (keywordEach kws X.env)).filterMap (·.1) = ks := by rfl)
    (hdb : (x == ("__debug__" : Str)) = false := by decide) (he : starEach (e :: es) X.env = (false, eval e X.env) :: starEach es X.env := by rfl)
    (hpl : ((backTo pos (starEach (e :: es) X.env)).any (·.1) || (backToKw pos (keywordEach kws X.env)).any (·.1.isNone)) = false := by rfl) :
    PE X (.Call (.Name x p) (e :: es) kws pos) (tCallN n ks.length sp gV E t tk) := by
  refine ⟨fun pins s σ H Q I h => ?_⟩
  refine wpAny_Call_Name_kw (ld_glob I hg hm ?_ hdb)
  refine PySem.W.callWith_KW (h₀ := X.base) I.ok.mod.kin hk hall (thn (ha.run pos pins s σ H _ I h) fun us s1 ⟨vs, H1, I1, r, q⟩ => ?_) hpl he
  refine thn (hkw.run pos pins s1 σ H1 _ I1 q) fun ws s2 ⟨zs, H2, I2, rz, l1, l2, q2⟩ => ⟨I2.kIn, ?_⟩
  rw [hks]
  exact run_fnGN F gd room hb hx I2 r rz l1 l2 q2
/-- one keyword-only parameter, a number -/
theorem bind_kw1 {K : PySem.W.Frag} {x qual y : Str} {params : Arguments} {body : List Stmt} {scope : Scope} {D : Addr} {doc pm cdv ct : Value} {an : Option Addr} {ps : List Str} {i : Int} {tk : Tok} (hD : PySem.W.nsIn K D y = some (some (.int i tk)))
    (h : ∀ (us : List Value) (v : Value), us.length + 1 = ps.length → KwChain D [(y, v)] (bindArgs (PySem.W.fnOf x qual params body scope .none (.ref D) doc pm an cdv ct) ⟨us, []⟩) (ps.zip (us ++ [v]))) :
    ∃ ds, Vals [V.int i] ds ∧ Binds K (PySem.W.fnOf x qual params body scope .none (.ref D) doc pm an cdv ct) ps ds :=
  ⟨[.int i tk], .cons ⟨tk, rfl⟩ .nil, fun s us X hlen => BindsTo.of_looks fun M => KwChain.looks (l := [(y, .int i tk)]) X (fun q hq => by rw [List.mem_singleton.mp hq]; exact hD) (h us _ (by rw [← hlen, List.length_append]; rfl))⟩
theorem bind_kwN {K : PySem.W.Frag} {fd : FuncData} {ps : List Str} {n : Nat} {y : Str} (h : ∀ (us : List Value) (v : Value), us.length = n → bindArgs fd ⟨us, [(y, v)]⟩ = pure (ps.zip (us ++ [v]))) : KBn K fd ps n [y] (fun us ws => us ++ ws) (fun vs zs => vs ++ zs) :=
  ⟨fun s us ws X l1 l2 => match ws, l2 with | [v], _ => .of_eq (h us v l1), fun r r2 => r.append r2⟩
end
end Dk

set_option Elab.async false
set_option linter.all false
set_option maxRecDepth 100000
set_option maxHeartbeats 2000000
/-! calls that may let an error out, where the promise is FnG -/
namespace Dk
open PySem PySem.Spec PyProof.Rows L2
section
variable {X : Cx} {CX : CXT} {k n : Nat} {f C : Addr} {fd : FuncData} {ps ks : List Str} {sp : Sp} {dvs : List V} {ds : List Value} {E : L2.St → XK} {x m : Str} {p pos apos : Pos} {e o : Expr} {es : List Expr} {kws : List Keyword} {t tk : TA} {ta : TE} {g : List Value → List Value → List Value} {gV : List V → List V → List V}
theorem run_fnGS {pins : List (Addr × Obj)} {σ : L2.St} {H : Hp} {s : Shared} {Q : VK} {us : List Value} {vs : List V} (F : FnG X.prog X.w X.K X.mg X.base CX k f fd ps sp) (gd : X.A.guards = some []) (room : Room k X.A)
    (hb : Binds X.K fd ps ds) (hd : Vals dvs ds) (hx : PassesAt CX X σ (E σ)) (I : Inv X pins σ H s) (r : Vals vs us) (h : sp (vs ++ dvs) H Q (E σ)) : wpAny (model X.prog X.w) X.A (call (.ref f) us) (EP X pins σ Q) X.xe s := by
  have r2 := r.append hd
  have bnd := hb s us I.kIn (by rw [← r2.length]; exact F.many _ _ _ _ h)
  refine wpAny_call (codeAny_mono (F.go gd room I.env0 bnd r2 h) ?_)
  intro res s' hq
  match res, hq with
  | .error e, hq => exact hx _ _ _ _ _ I hq
  | .ok (.ret u), hq => exact I.after hq
  | .ok .next, hq => exact hq.elim
  | .ok .brk, hq => exact hq.elim
  | .ok .cont, hq => exact hq.elim
theorem passLA {σ : L2.St} : PassesAt (L2.CX X.prog X.w) X σ E0 := fun pins H s e s' I c => passL pins σ H s e s' I c
def tCallGS (sp : Sp) (dvs : List V) (E : L2.St → XK) (t : TA) : TE := fun σ H Q => t σ H fun vs H1 => sp (vs ++ dvs) H1 Q (E σ)
/-- f(e, ..); keyword-only parameters lack -/
theorem pe_callGS (F : FnG X.prog X.w X.K X.mg X.base CX k f fd ps sp) (gd : X.A.guards = some []) (room : Room k X.A) (hg : Gl X x) (hm : X.mg x = some (.ref f)) (hk : PySem.W.keepIn X.K (.ref f) = true) (hbd : ∃ ds, Vals dvs ds ∧ Binds X.K fd ps ds)
    (hx : ∀ σ, PassesAt CX X σ (E σ)) (ha : PA X (e :: es) t) (h1 : (x == ("__debug__" : Str)) = false := by decide) (h2 : starEach (e :: es) X.env = (false, eval e X.env) :: starEach es X.env := by rfl) (h3 : (backTo pos (starEach es X.env)).any (·.1) = false := by rfl) :
    PE X (.Call (.Name x p) (e :: es) [] pos) (tCallGS sp dvs E t) where
  run := fun pins s σ H Q I h => let ⟨_, hd, hb⟩ := hbd; wpAny_Call_Name_kw (ld_glob I hg hm
    (PySem.W.callWith_K (h₀ := X.base) I.ok.mod.kin hk (thn (ha.run pos pins s σ H _ I h) fun us s1 ⟨vs, H1, I1, r, q⟩ => ⟨I1.kIn, run_fnGS F gd room hb hd (hx σ) I1 r q⟩) h2 h3) h1)
theorem run_fnGNS {pins : List (Addr × Obj)} {σ : L2.St} {H : Hp} {s : Shared} {Q : VK} {us ws : List Value} {vs zs : List V} (F : FnG X.prog X.w X.K X.mg X.base CX k f fd ps sp) (gd : X.A.guards = some []) (room : Room k X.A) (hb : KBn X.K fd ps n ks g gV) (hx : PassesAt CX X σ (E σ))
    (I : Inv X pins σ H s) (r : Vals vs us) (rz : Vals zs ws) (l1 : vs.length = n) (l2 : zs.length = ks.length) (h : sp (gV vs zs) H Q (E σ)) : wpAny (model X.prog X.w) X.A (call (.ref f) us (ks.zip ws)) (EP X pins σ Q) X.xe s := by
  refine wpAny_call (codeAny_mono (F.go gd room I.env0 (hb.to s us ws I.kIn (r.length.symm.trans l1) (rz.length.symm.trans l2)) (hb.rel r rz) h) ?_)
  intro res s' hq
  match res, hq with
  | .error e, hq => exact hx _ _ _ _ _ I hq
  | .ok (.ret u), hq => exact I.after hq
  | .ok .next, hq => exact hq.elim
  | .ok .brk, hq => exact hq.elim
  | .ok .cont, hq => exact hq.elim
def tCallGNS (n m : Nat) (sp : Sp) (gV : List V → List V → List V) (E : L2.St → XK) (t tk : TA) : TE := fun σ H Q => t σ H fun vs H1 => tk σ H1 fun zs H2 => vs.length = n ∧ zs.length = m ∧ sp (gV vs zs) H2 Q (E σ)
/-- f(e, .., k = v, ..) -/
theorem pe_callGNS (F : FnG X.prog X.w X.K X.mg X.base CX k f fd ps sp) (gd : X.A.guards = some []) (room : Room k X.A) (hg : Gl X x) (hm : X.mg x = some (.ref f)) (hk : PySem.W.keepIn X.K (.ref f) = true) (hb : KBn X.K fd ps n ks g gV) (hx : ∀ σ, PassesAt CX X σ (E σ))
    (ha : PA X (e :: es) t) (hkw : PK X kws tk) (hall : (backToKw pos (keywordEach kws X.env)).all (·.1.isSome) = true := by rfl) (hks : (backToKw pos (keywordEach kws X.env)).filterMap (·.1) = ks := by rfl)
    (hdb : (x == ("__debug__" : Str)) = false := by decide) (he : starEach (e :: es) X.env = (false, eval e X.env) :: starEach es X.env := by rfl)
    (hpl : ((backTo pos (starEach (e :: es) X.env)).any (·.1) || (backToKw pos (keywordEach kws X.env)).any (·.1.isNone)) = false := by rfl) :
    PE X (.Call (.Name x p) (e :: es) kws pos) (tCallGNS n ks.length sp gV E t tk) := by
  refine ⟨fun pins s σ H Q I h => ?_⟩
  refine wpAny_Call_Name_kw (ld_glob I hg hm ?_ hdb)
  refine PySem.W.callWith_KW (h₀ := X.base) I.ok.mod.kin hk hall (thn (ha.run pos pins s σ H _ I h) fun us s1 ⟨vs, H1, I1, r, q⟩ => ?_) hpl he
  refine thn (hkw.run pos pins s1 σ H1 _ I1 q) fun ws s2 ⟨zs, H2, I2, rz, l1, l2, q2⟩ => ⟨I2.kIn, ?_⟩
  rw [hks]
  exact run_fnGNS F gd room hb (hx σ) I2 r rz l1 l2 q2
/-- o.m(e, ..) -/
def tMethGS (C : Addr) (m : Str) (sp : Sp) (E : L2.St → XK) (ta : TE) (t : TA) : TE := fun σ H Q => ta σ H fun x H1 => ∃ a dx fs, x = .ref a ∧ H1 a = some (.ins C dx fs) ∧ fs.lookup m = none ∧
  t σ H1 fun vs H2 => sp (x :: vs) H2 Q (E σ)
theorem pe_methGS {pl : Sem Bool} (he : PE X o ta) (c : Cls X.K C) (hm : Meth X.K C m f) (F : FnG X.prog X.w X.K X.mg X.base CX k f fd ps sp) (gd : X.A.guards = some []) (room : Room k X.A) (hb : Binds X.K fd ps []) (hx : ∀ σ, PassesAt CX X σ (E σ)) (ha : PA X (e :: es) t)
    (hst : starEach (e :: es) X.env = (false, eval e X.env) :: starEach es X.env := by rfl) (hpl : (backTo pos (starEach es X.env)).any (·.1) = false := by rfl)
    (ht : eval (.Call (.Attribute o m apos) (e :: es) [] pos) X.env = (do
      let ov ← eval o X.env
      standAt apos.atName
      let (f, first) ← holding [ov] (getMethod ov m pl)
      callWith pos f first (backTo pos (starEach (e :: es) X.env)) (backToKw pos (keywordEach [] X.env))) := by rfl) :
    PE X (.Call (.Attribute o m apos) (e :: es) [] pos) (tMethGS C m sp E ta t) := by
  refine ⟨fun pins s σ H Q I h => ?_⟩
  refine PySem.W.methodCall_KW (pl := pl) (thn (he.run pins s σ H _ I h) fun u s1 ⟨x, H1, I1, rx, a, dx, fs, ex, ea, l, q⟩ => ?_) ht
  subst ex
  obtain rfl : u = Value.ref a := rx
  refine getmeth_ok I1 ea c hm l ?_
  refine PySem.W.callWith_K (first := [.ref a]) (h₀ := X.base) I.ok.mod.kin hm.kp (thn (ha.run pos pins s1 σ H1 _ I1 q) fun us s2 ⟨vs, H2, I2, r, q2⟩ => ⟨I2.kIn, ?_⟩) hst hpl
  exact run_fnGS (us := .ref a :: us) (vs := .ref a :: vs) (dvs := []) F gd room hb .nil (hx σ) I2 (.cons rfl r) (by rw [List.append_nil]; exact q2)
/-- o.m() -/
theorem pe_meth0GS {pl : Sem Bool} (he : PE X o ta) (c : Cls X.K C) (hm : Meth X.K C m f) (F : FnG X.prog X.w X.K X.mg X.base CX k f fd ps sp) (gd : X.A.guards = some []) (room : Room k X.A) (hb : Binds X.K fd ps []) (hx : ∀ σ, PassesAt CX X σ (E σ))
    (ht : eval (.Call (.Attribute o m apos) [] [] pos) X.env = (do
      let ov ← eval o X.env
      standAt apos.atName
      let (f, first) ← holding [ov] (getMethod ov m pl)
      callWith pos f first (backTo pos (starEach [] X.env)) (backToKw pos (keywordEach [] X.env))) := by rfl) :
    PE X (.Call (.Attribute o m apos) [] [] pos) (tMethGS C m sp E ta tNil) := by
  refine ⟨fun pins s σ H Q I h => ?_⟩
  refine PySem.W.methodCall_KW (pl := pl) (thn (he.run pins s σ H _ I h) fun u s1 ⟨x, H1, I1, rx, a, dx, fs, ex, ea, l, q⟩ => ?_) ht
  subst ex
  obtain rfl : u = Value.ref a := rx
  refine getmeth_ok I1 ea c hm l ?_
  exact PySem.W.callWith_K0 (first := [.ref a]) I1.kIn hm.kp <| run_fnGS (us := [.ref a]) (vs := [.ref a]) (dvs := []) F gd room hb .nil (hx σ) I1 (.cons rfl .nil) (by rw [List.append_nil]; exact q)
end
end Dk
namespace L2
open PySem PySem.Spec PyProof.Rows
theorem kitAny_of {K : PySem.W.Frag} {t : Value} : ∀ {cs : List (Value × Bool)}, (∀ p ∈ cs, PySem.W.kitOne K t p.1 = some p.2) → PySem.W.kitAny K t (cs.map (·.1)) = some (cs.any (·.2))
  | [], _ => by rw [List.map_nil, PySem.W.kitAny]; rfl
  | p :: cs, h => by
    rw [List.map_cons, PySem.W.kitAny, h p (List.mem_cons_self ..), List.any_cons]
    cases p.2 with
    | true => rfl
    | false => exact kitAny_of fun q hq => h q (List.mem_cons_of_mem _ hq)
/-- isinstance(e, (C1, ..)), e the error that the suite holds at a -/
def rIsGT (K : PySem.W.Frag) (a : Addr) (cls : Value) (d : Option Addr) : List V → Hp → VK → Prop := fun xs H Q => ∃ D dd fs, cls = .ref D ∧ d = some dd ∧ ExcC K D ∧ H dd = some (.xd fs) ∧
  ∃ (t : Addr) (cs : List (Addr × Bool)), xs = [.ref a, .ref t] ∧ SqT K H t (cs.map fun p => V.ref p.1) ∧ (∀ p ∈ cs, PySem.W.kitOne K (.ref D) (.ref p.1) = some p.2) ∧ Q (.bl (cs.any (·.2))) H
theorem vals_refs : ∀ {cs : List (Addr × Bool)} {us : List Value}, Vals (cs.map fun p => V.ref p.1) us → us = (cs.map fun p => (Value.ref p.1, p.2)).map (·.1)
  | [], _, r => by cases r; rfl
  | p :: cs, _, r => by
    cases r with
    | cons h t => rw [List.map_cons, List.map_cons, ← vals_refs t]; rw [show _ = Value.ref p.1 from h]
theorem call_isGT {X : Cx} {K : PySem.W.Frag} {a : Addr} {cls : Value} {d : Option Addr} {oe : Obj} {pn : List (Addr × Obj)} (hK : X.K = K) (hz : Zc cls d oe) (hf : ∃ vs, oe.data = .fields vs) : CallR (X.suite a ((a, oe) :: pn)) (.builtin "isinstance") (rIsGT K a cls d) := by
  subst hK
  intro pins s σ H xs us Q I r ⟨D, dd, fs, e1, e2, C, hd, t, cs, e0, ht, hk, q⟩
  subst e1; subst e2; subst e0
  cases r with
  | cons rx rr =>
    cases rr with
    | cons rt rr =>
      cases rr; cases rx
      obtain rfl : _ = Value.ref t := rt
      obtain ⟨hget, _⟩ := I.pin (a, oe) (List.mem_append.mpr (.inl List.mem_cons_self)); obtain ⟨vs, hv⟩ := hf
      have hx : ObjOk X.prog X.w H s.heap dd (.xd fs) := I.hok dd _ hd
      obtain ⟨mA, hns, _⟩ := hx
      obtain ⟨oo, ho, _⟩ := lookIn_ns hns
      have J : PySem.W.InstAt s.heap a oe D (some oo) := ⟨hget, hz.1, by unfold PySem.W.notCls; rw [hv] <;> rfl, by rw [hz.2]; exact ho⟩
      obtain ⟨its, rv, ⟨⟨cls, dct, data, sls⟩, hob, hc, n, hdt⟩, _⟩ := I.tuple ht
      simp only at hc hdt
      subst hc hdt
      have ei := vals_refs rv
      refine PySem.W.kia_tup (PySem.W.dk_kit C) I.kIn J hob (b := cs.any (·.2)) ?_ (fun z => nomatch z) fun tk => ⟨.bl _, H, I.kept (t' := tk) fun _ _ z => z, rfl, q⟩
      rw [ei, kitAny_of (cs := cs.map fun p => (Value.ref p.1, p.2)) (fun p hp => by
        obtain ⟨p', hp', rfl⟩ := List.mem_map.mp hp
        exact hk p' hp'), List.any_map]
      rfl
end L2

set_option Elab.async false
set_option linter.all false
set_option maxRecDepth 100000
set_option maxHeartbeats 2000000
/-! dict(zip(xs, ys)) -/
namespace Dk
open PySem PySem.Spec PyProof.Rows L2
def tDZip (K : PySem.W.Frag) (ta : TA) : TE := fun σ H Q => ta σ H fun vs H1 => ∃ (a b : Addr) (ks : List Key) (ys : List V), vs = [.ref a, .ref b] ∧ SqL K H1 a (ks.map kV) ∧ SqL K H1 b ys ∧ ∀ p, H1 p = none → Q (.ref p) (upd H1 p (.dK (mergeK [] (ks.zip ys))))
theorem kv_zip : ∀ {ks : List Key} {ys : List V} {us : List Value}, Vals ys us → KV (ks.zip ys) (ks.zip us)
  | [], _, _, _ => .nil
  | _ :: _, _, _, .nil => .nil
  | k :: ks, _, _, .cons r t => .cons ⟨rfl, r⟩ (kv_zip t)
theorem vals_at : ∀ {ys : List V} {us : List Value} {i : Nat} {u : Value}, Vals ys us → us[i]? = some u → ∃ y, ys[i]? = some y ∧ RelV y u
  | _, _, i, u, .nil, h => by simp at h
  | _, _, 0, u, .cons (a := y) r t, h => by
    have e : _ = u := Option.some.inj h
    exact ⟨y, rfl, e ▸ r⟩
  | _, _, i + 1, u, .cons r t, h => by
    obtain ⟨y, h1, h2⟩ := vals_at t (i := i) (by simpa using h)
    exact ⟨y, by simpa using h1, h2⟩
theorem pe_dictZip {X : Cx} {e e2 : Expr} {ta : TA} {p p2 q pos : Pos} (hg : Gl X "dict") (hm : X.mg "dict" = none) (hg2 : Gl X "zip") (hm2 : X.mg "zip" = none) (ha : PA X [e, e2] ta) (hc : X.calm = true)
    (hs : starEach [e, e2] X.env = (false, eval e X.env) :: starEach [e2] X.env := by rfl) (hpl : (backTo q (starEach [e2] X.env)).any (·.1) = false := by rfl) :
    PE X (.Call (.Name "dict" p) [.Call (.Name "zip" p2) [e, e2] [] q] [] pos) (tDZip X.K ta) := by
  refine ⟨fun pins s σ H Q I h => ?_⟩
  refine PyProof.Rows.Call_ (ld_blt I hg hm PyProof.Rows.boot_dict ?_)
  refine PyProof.Rows.callWith_type1 (PyProof.Rows.args_cons ?_ rfl) rfl rfl
  refine PyProof.Rows.Call_ (ld_blt I hg2 hm2 PyProof.Rows.boot_zip (PyProof.Rows.callWith_type1 (thn (ha.run q pins s σ H _ I h) fun us s1 ⟨vs, H1, I1, r1, q1⟩ => ?_) hs hpl))
  obtain ⟨a, b, ks, ys, ex, hqx, hqy, q1⟩ := q1
  subst ex
  cases r1 with
  | cons r rr =>
    cases rr with
    | cons r' rr =>
      cases rr
      cases r
      cases r'
      obtain ⟨its, rv, p1, z1⟩ := I1.list hqx
      obtain ⟨its2, rv2, p2, z2⟩ := I1.list hqy
      have la : a < s1.heap.objs.size := p1.lt
      have lb : b < s1.heap.objs.size := p2.lt
      refine call_zip_2 p1.isList p2.isList fun h' hz hTI hTO h1 h2 hsz hk => PyProof.Rows.args_nil ?_
      have il1 : h'.IsList a its.toArray := p1.isList.at fun o e => hk _ o e
      have il2 : h'.IsList b its2.toArray := p2.isList.at fun o e => hk _ o e
      have el1 : its.length = ks.length := by rw [← rv.length, List.length_map]
      have el2 : its2.length = ys.length := by rw [← rv2.length]
      refine PySem.call_dict_pairs (knd := mixKind X.prog X.w) (kvs := ks.zip its2) (PairArg.zip _ _ _ _ _ a b (zipApart_new la lb) its.toArray its2.toArray) (I1.ok.hd hc) ⟨hz, hTI, ⟨_, _, hTO⟩, h1, h2, il1, il2⟩ ⟨?_, fun i key v ⟨e1, e2⟩ => ?_⟩ ?_ fun h'' tk hd' k => ?_
      · rw [List.length_zip, List.size_toArray, List.size_toArray, el1]
      · rw [List.getElem?_toArray] at e1 e2
        obtain ⟨y, hy, ry⟩ := vals_at rv e1
        rw [List.getElem?_map] at hy
        obtain ⟨kk, hkk, rfl⟩ := Option.map_eq_some_iff.mp hy
        exact ⟨kk, List.getElem?_zip_eq_some.mpr ⟨hkk, e2⟩, kV_is ry⟩
      · rw [List.size_toArray, List.size_toArray, el1]
        rw [List.length_map] at z1
        exact Nat.le_trans (Nat.min_le_left _ _) z1
      · have hle : s1.heap.objs.size ≤ h'.objs.size := by rw [hsz]; exact Nat.le_add_right _ _
        have kk : ∀ b o, s1.heap.get? b = some o → h''.get? b = some o := fun c o e => by
          have lc := Heap.lt_size e
          refine k c o (fun hm => ?_) (hk c o e)
          have e' : c = s1.heap.objs.size + 4 ∨ c = s1.heap.objs.size + 3 ∨ c = s1.heap.objs.size ∨ c = s1.heap.objs.size + 1 := by simpa using hm
          have hge : s1.heap.objs.size ≤ c := by
            rcases e' with z | z | z | z
            · rw [z]; exact Nat.le_add_right _ _
            · rw [z]; exact Nat.le_add_right _ _
            · rw [z]; exact Nat.le_refl _
            · rw [z]; exact Nat.le_add_right _ _
          exact absurd lc (Nat.not_lt.mpr hge)
        have hms : (h'.objs.size == sysModules) = false := beq_eq_false_iff_ne.mpr (Nat.ne_of_gt (Nat.lt_of_lt_of_le I1.big hle))
        have hlen : (mergeK [] (ks.zip ys)).length ≤ sizeLine := by
          refine Nat.le_trans (length_mergeK _ []) ?_
          rw [List.length_nil, Nat.zero_add, List.length_zip]
          rw [List.length_map] at z1
          exact Nat.le_trans (Nat.min_le_left _ _) z1
        exact ⟨.ref h'.objs.size, upd H1 h'.objs.size (.dK (mergeK [] (ks.zip ys))), I1.laid (t' := tk) kk hle (show ObjOk X.prog X.w _ _ _ (.dK (mergeK [] (ks.zip ys))) from ⟨hlen, hms, merged [] (ks.zip its2), KV.merge (kv_zip rv2) .nil, hd'⟩), rfl, q1 _ (I1.hok.fresh hle)⟩
theorem pe_dictZipQ {X : Cx} {K : PySem.W.Frag} {e e2 : Expr} {ta : TA} {p p2 q pos : Pos} (h : X.K = K) (hc : X.calm = true) (hg : Gl X "dict") (hm : X.mg "dict" = none) (hg2 : Gl X "zip") (hm2 : X.mg "zip" = none) (ha : PA X [e, e2] ta)
    (hs : starEach [e, e2] X.env = (false, eval e X.env) :: starEach [e2] X.env := by rfl) (hpl : (backTo q (starEach [e2] X.env)).any (·.1) = false := by rfl) :
    PE X (.Call (.Name "dict" p) [.Call (.Name "zip" p2) [e, e2] [] q] [] pos) (tDZip K ta) := h ▸ pe_dictZip hg hm hg2 hm2 ha hc hs hpl
end Dk

set_option Elab.async false
set_option linter.all false
set_option maxRecDepth 100000
set_option maxHeartbeats 1000000
namespace Dk
open PySem PySem.Spec PyProof.Rows L2
open Evl (Ex)
open Py (rp)
open PyD (pic)
/-! ### what a def computes: values, checks, choices, errors; no heap -/
inductive Arg where
  | no
  | int (i : Int)
  | str (s : Str)
structure Exn where
  cls : Nat
  arg : Arg
structure W (α : Type) where
  run : (α → Prop) → (Exn → Prop) → Prop
  mono : ∀ {P R : α → Prop} {E F : Exn → Prop}, (∀ a, P a → R a) → (∀ e, E e → F e) → run P E → run R F
inductive Out (S R : Type) where
  | fin (s : S)
  | ret (r : R)
inductive Fl (S R L : Type) where
  | nx (s : S)
  | rt (r : R)
  | bk (l : L)
  | ct (l : L)
namespace W
variable {α β ι S R L : Type}
def pure (a : α) : W α := ⟨fun Q _ => Q a, fun h _ => h a⟩
def bind (m : W α) (f : α → W β) : W β := ⟨fun Q E => m.run (fun a => (f a).run Q E) E, fun h g => m.mono (fun a => (f a).mono h g) g⟩
def chk (c : Prop) (m : W α) : W α := ⟨fun Q E => c ∧ m.run Q E, fun h g x => ⟨x.1, m.mono h g x.2⟩⟩
def pick (P : α → Prop) : W α := ⟨fun Q _ => ∀ a, P a → Q a, fun h _ x a p => h a (x a p)⟩
def throw (e : Exn) : W α := ⟨fun _ E => E e, fun _ g => g e⟩
def stuck : W α := ⟨fun _ _ => False, fun _ _ h => h⟩
def ite (b : Bool) (m n : W α) : W α := match b with
  | true => m
  | false => n
def fold (f : ι → S → W S) : List ι → S → W S
  | [], s => pure s
  | x :: xs, s => bind (f x s) fun s' => fold f xs s'
def loop (f : ι → S → W (Fl S R S)) : List ι → S → W (Out S R)
  | [], s => pure (.fin s)
  | x :: xs, s => bind (f x s) fun o => match o with
    | .nx s' => loop f xs s'
    | .ct s' => loop f xs s'
    | .bk s' => pure (.fin s')
    | .rt r => pure (.ret r)
def wfoldN (c : S → W Bool) (f : S → W S) : Nat → S → W S
  | 0, _ => stuck
  | n + 1, s => bind (c s) fun b => ite b (bind (f s) fun s' => wfoldN c f n s') (pure s)
def wfold (c : S → W Bool) (f : S → W S) (s : S) : W S := ⟨fun Q E => ∃ n, (wfoldN c f n s).run Q E, fun h g ⟨n, x⟩ => ⟨n, (wfoldN c f n s).mono h g x⟩⟩
def wloopN (c : S → W Bool) (f : S → W (Fl S R S)) : Nat → S → W (Out S R)
  | 0, _ => stuck
  | n + 1, s => bind (c s) fun b => ite b (bind (f s) fun o => match o with
    | .nx s' => wloopN c f n s'
    | .ct s' => wloopN c f n s'
    | .bk s' => pure (.fin s')
    | .rt r => pure (.ret r)) (pure (.fin s))
def wloop (c : S → W Bool) (f : S → W (Fl S R S)) (s : S) : W (Out S R) := ⟨fun Q E => ∃ n, (wloopN c f n s).run Q E, fun h g ⟨n, x⟩ => ⟨n, (wloopN c f n s).mono h g x⟩⟩
/-- [f x for x in xs if t x] -/
def mapf (t : ι → W Bool) (f : ι → W β) : List ι → W (List β)
  | [] => pure []
  | x :: xs => bind (t x) fun b => ite b (bind (f x) fun y => bind (mapf t f xs) fun ys => pure (y :: ys)) (mapf t f xs)
theorem ext {m n : W α} (h : ∀ Q E, m.run Q E = n.run Q E) : m = n := by
  cases m; cases n
  have : ‹(α → Prop) → (Exn → Prop) → Prop› = _ := rfl
  congr
  funext Q E
  exact h Q E
@[simp] theorem pure_bind (a : α) (f : α → W β) : bind (pure a) f = f a := rfl
@[simp] theorem bind_pure (m : W α) : bind m pure = m := rfl
theorem bind_assoc {γ : Type} (m : W α) (f : α → W β) (g : β → W γ) : bind (bind m f) g = bind m fun a => bind (f a) g := rfl
theorem chk_true {c : Prop} (h : c) (m : W α) : chk c m = m := W.ext fun Q E => propext ⟨fun x => x.2, fun x => ⟨h, x⟩⟩
theorem chk_bind {c : Prop} (m : W α) (f : α → W β) : bind (chk c m) f = chk c (bind m f) := rfl
end W

abbrev Ow := List (Addr × HO)
/-! ### values whose lists are one's own: o is what is owned of it -/
structure PO (α : Type) where
  py : Py α
  rp : Hp → V → α → Ow → Prop
  up : ∀ {G G' : Hp} {v : V} {a : α} {o : Ow}, Ex G G' → rp G v a o → rp G' v a o
  lists : ∀ {G : Hp} {v : V} {a : α} {o : Ow}, rp G v a o → ∀ q ∈ o, ∃ ws, q.2 = .lst ws
  frz : ∀ {G G' : Hp} {v : V} {a : α} {o : Ow}, Ex G G' → (∀ q ∈ o, G' q.1 = some q.2) → rp G v a o → py.rp G' v a
def PO.st {α : Type} [i : Py α] : PO α where
  py := i
  rp := fun G v a o => o = [] ∧ i.rp G v a
  up := fun e h => ⟨h.1, i.up e h.2⟩
  lists := fun h q hq => by rw [h.1] at hq; cases hq
  frz := fun e _ h => i.up e h.2
def PO.pair {α β : Type} (p : PO α) (q : PO β) : PO (α × β) where
  py := @instPyProd α β p.py q.py
  rp := fun G v x o => ∃ t y z o1 o2, v = .ref t ∧ G t = some (.tup [y, z]) ∧ o = o1 ++ o2 ∧ p.rp G y x.1 o1 ∧ q.rp G z x.2 o2
  up := fun e ⟨t, y, z, o1, o2, h1, h2, h3, h4, h5⟩ => ⟨t, y, z, o1, o2, h1, e t _ h2, h3, p.up e h4, q.up e h5⟩
  lists := fun ⟨t, y, z, o1, o2, h1, h2, h3, h4, h5⟩ r hr => by
    rw [h3] at hr
    exact (List.mem_append.mp hr).elim (p.lists h4 r) (q.lists h5 r)
  frz := fun e f ⟨t, y, z, o1, o2, h1, h2, h3, h4, h5⟩ => ⟨t, y, z, h1, e t _ h2, p.frz e (fun r hr => f r (by rw [h3]; exact List.mem_append_left _ hr)) h4, q.frz e (fun r hr => f r (by rw [h3]; exact List.mem_append_right _ hr)) h5⟩
inductive PoL {α : Type} (p : PO α) (G : Hp) : List V → List α → Ow → Prop
  | nil : PoL p G [] [] []
  | cons {v : V} {x : α} {o : Ow} {vs : List V} {xs : List α} {r : Ow} : p.rp G v x o → PoL p G vs xs r → PoL p G (v :: vs) (x :: xs) (o ++ r)
theorem PoL.up {α : Type} {p : PO α} {G G' : Hp} (e : Ex G G') {vs : List V} {xs : List α} {o : Ow} (h : PoL p G vs xs o) : PoL p G' vs xs o := by
  induction h with
  | nil => exact .nil
  | cons a _ ih => exact .cons (p.up e a) ih
theorem PoL.len {α : Type} {p : PO α} {G : Hp} {vs : List V} {xs : List α} {o : Ow} (h : PoL p G vs xs o) : vs.length = xs.length := by
  induction h with
  | nil => rfl
  | cons a _ ih => simp [ih]
theorem PoL.lists {α : Type} {p : PO α} {G : Hp} {vs : List V} {xs : List α} {o : Ow} (h : PoL p G vs xs o) : ∀ q ∈ o, ∃ ws, q.2 = .lst ws := by
  induction h with
  | nil => intro q hq; cases hq
  | cons a _ ih => exact fun q hq => (List.mem_append.mp hq).elim (p.lists a q) (ih q)
theorem PoL.frz {α : Type} {p : PO α} {G G' : Hp} (e : Ex G G') {vs : List V} {xs : List α} {o : Ow} (h : PoL p G vs xs o) : (∀ q ∈ o, G' q.1 = some q.2) → @All2 α p.py G' vs xs := by
  induction h with
  | nil => exact fun _ => .nil
  | cons a _ ih => exact fun f => .cons (p.frz e (fun q hq => f q (List.mem_append_left _ hq)) a) (ih fun q hq => f q (List.mem_append_right _ hq))
theorem PoL.of {α : Type} [i : Py α] {G : Hp} : ∀ {vs : List V} {xs : List α}, All2 G vs xs → PoL (PO.st (α := α)) G vs xs []
  | _, _, .nil => .nil
  | _, _, .cons r t => .cons (o := []) (r := []) ⟨rfl, r⟩ (PoL.of t)
theorem PoL.to {α : Type} [i : Py α] {G : Hp} {vs : List V} {xs : List α} {o : Ow} (h : PoL (PO.st (α := α)) G vs xs o) : All2 G vs xs ∧ o = [] := by
  induction h with
  | nil => exact ⟨.nil, rfl⟩
  | cons a _ ih => exact ⟨.cons a.2 ih.1, by rw [a.1, ih.2]; rfl⟩
def PO.list {α : Type} (p : PO α) : PO (List α) where
  py := @instPyList α p.py
  rp := fun G v xs o => ∃ l ws r, v = .ref l ∧ o = (l, .lst ws) :: r ∧ PoL p G ws xs r
  up := fun e ⟨l, ws, r, h1, h2, h3⟩ => ⟨l, ws, r, h1, h2, h3.up e⟩
  lists := fun ⟨l, ws, r, h1, h2, h3⟩ q hq => by
    rw [h2] at hq
    rcases List.mem_cons.mp hq with rfl | hq
    · exact ⟨ws, rfl⟩
    · exact h3.lists q hq
  frz := fun e f ⟨l, ws, r, h1, h2, h3⟩ => ⟨l, ws, h1, f (l, .lst ws) (by rw [h2]; exact List.mem_cons_self ..), h3.frz e fun q hq => f q (by rw [h2]; exact List.mem_cons_of_mem _ hq)⟩
/-- whatever -/
structure Junk where
instance instPyJunk : Py Junk := ⟨fun _ _ _ => True, fun _ _ => trivial⟩
/-- this list, its items as they are -/
def PO.at (l : Addr) (ws : List V) : PO Unit where
  py := ⟨fun _ _ _ => True, fun _ _ => trivial⟩
  rp := fun _ v _ o => v = .ref l ∧ o = [(l, .lst ws)]
  up := fun _ h => h
  lists := fun h q hq => by rw [h.2] at hq; rw [List.mem_singleton.mp hq]; exact ⟨ws, rfl⟩
  frz := fun _ _ _ => trivial
theorem junk_all {G : Hp} : ∀ {ws : List V} {js : List Junk}, js.length = ws.length → All2 G ws js
  | [], [], _ => .nil
  | _ :: ws, _ :: js, h => .cons trivial (junk_all (by simpa using h))
  | [], _ :: _, h => by simp at h
  | _ :: _, [], h => by simp at h
/-! ### keys of dicts -/
class DKey (κ : Type) [Py κ] [DecidableEq κ] where
  obj : List (κ × V) → HO
  get : ∀ {G H : Hp} {a : Addr} {y : V} {kvs : List (κ × V)} {k : κ}, Ex G H → H a = some (obj kvs) → rp G y k → DGet H a y (valV kvs k)
  put : ∀ {G H : Hp} {a : Addr} {y v : V} {kvs : List (κ × V)} {k : κ}, Ex G H → H a = some (obj kvs) → rp G y k → kvs.length < sizeLine → DPut H a y v (upd H a (obj (putK kvs k v)))
def KvA {κ β : Type} (i : Py β) (G : Hp) (kv : κ × V) (p : κ × β) : Prop := kv.1 = p.1 ∧ i.rp G kv.2 p.2
/-- a dict of any such keys -/
structure Dc (κ β : Type) where
  items : List (κ × β)
instance instPyDc {κ β : Type} [Py κ] [DecidableEq κ] [c : DKey κ] [i : Py β] : Py (Dc κ β) := ⟨fun G v d => ∃ a kvs, v = .ref a ∧ G a = some (c.obj kvs) ∧ Paired (KvA i G) kvs d.items, fun e ⟨a, kvs, h1, h2, h3⟩ => ⟨a, kvs, h1, e a _ h2, Paired.mapP h3 fun _ _ ⟨x, y⟩ => ⟨x, i.up e y⟩⟩⟩
/-! ### what the slots of a frame hold -/
inductive Sl : Type 1 where
  | any
  | bag
  | st {α : Type} (i : Py α) (a : α)
  | ow {α : Type} (i : Py α) (xs : List α)
  | od {β : Type} (i : Py β) (ps : List (Str × β))
  | ov {α : Type} (p : PO α) (a : α)
  | oc {κ β : Type} (pk : Py κ) (de : DecidableEq κ) (c : DKey κ) (i : Py β) (ps : List (κ × β))
abbrev stv {α : Type} [i : Py α] (a : α) : Sl := .st i a
abbrev own {α : Type} [i : Py α] (xs : List α) : Sl := .ow i xs
abbrev owd {α : Type} [i : Py α] (ps : List (Str × α)) : Sl := .od i ps
abbrev owc {κ β : Type} [pk : Py κ] [de : DecidableEq κ] [c : DKey κ] [i : Py β] (ps : List (κ × β)) : Sl := .oc pk de c i ps
def SlOk (B : Option Addr) (G : Hp) (s : Sl) (v : Option V) (o : Ow) : Prop := match s with
  | .any => o = []
  | .bag => o = [] ∧ ∃ b, B = some b ∧ v = some (.ref b)
  | .st i a => o = [] ∧ ∃ u, v = some u ∧ i.rp G u a
  | .ow i xs => ∃ p ws, v = some (.ref p) ∧ o = [(p, .lst ws)] ∧ Paired (i.rp G) ws xs
  | .od i ps => ∃ p kvs, v = some (.ref p) ∧ o = [(p, .dK kvs)] ∧ @AllK _ i G kvs ps
  | .ov p a => ∃ u, v = some u ∧ p.rp G u a o
  | .oc _ _ c i ps => ∃ p kvs, v = some (.ref p) ∧ o = [(p, c.obj kvs)] ∧ Paired (KvA i G) kvs ps
inductive Fr (B : Option Addr) (G : Hp) : List Sl → L2.St → Ow → Prop
  | nil : Fr B G [] [] []
  | cons {s : Sl} {v : Option V} {o : Ow} {D : List Sl} {σ : L2.St} {O : Ow} : SlOk B G s v o → Fr B G D σ O → Fr B G (s :: D) (v :: σ) (o ++ O)
section
variable {B : Option Addr} {G G' H : Hp} {D : List Sl} {σ : L2.St} {O O0 : Ow} {s : Sl} {v : Option V} {o : Ow}
theorem SlOk.up (e : Ex G G') (h : SlOk B G s v o) : SlOk B G' s v o := by
  cases s with
  | any => exact h
  | bag => exact h
  | st i a => obtain ⟨h1, u, h2, h3⟩ := h; exact ⟨h1, u, h2, i.up e h3⟩
  | ow i xs => obtain ⟨p, ws, h1, h2, h3⟩ := h; exact ⟨p, ws, h1, h2, @all2_up _ i _ _ e _ _ h3⟩
  | od i ps => obtain ⟨p, ws, h1, h2, h3⟩ := h; exact ⟨p, ws, h1, h2, Paired.mapP h3 fun _ _ ⟨a, b⟩ => ⟨a, i.up e b⟩⟩
  | ov p a => obtain ⟨u, h1, h2⟩ := h; exact ⟨u, h1, p.up e h2⟩
  | oc pk de c i ps => obtain ⟨p, ws, h1, h2, h3⟩ := h; exact ⟨p, ws, h1, h2, Paired.mapP h3 fun _ _ ⟨a, b⟩ => ⟨a, i.up e b⟩⟩
theorem Fr.up (e : Ex G G') (h : Fr B G D σ O) : Fr B G' D σ O := by
  induction h with
  | nil => exact .nil
  | cons a _ ih => exact .cons (a.up e) ih
theorem Fr.len (h : Fr B G D σ O) : σ.length = D.length := by
  induction h with
  | nil => rfl
  | cons a _ ih => simp [ih]
theorem Fr.focus (h : Fr B G D σ O) : ∀ {i : Nat}, D[i]? = some s → ∃ O1 o O2 v, O = O1 ++ o ++ O2 ∧ σ[i]? = some v ∧ SlOk B G s v o ∧
    ∀ G' s' v' o', Ex G G' → SlOk B G' s' v' o' → Fr B G' (D.set i s') (σ.set i v') (O1 ++ o' ++ O2) := by
  induction h with
  | nil => intro i hi; simp at hi
  | @cons s0 v0 o0 D0 σ0 O0 a t ih =>
    intro i hi
    cases i with
    | zero =>
      simp at hi
      subst hi
      exact ⟨[], o0, O0, v0, rfl, rfl, a, fun G' s' v' o' e h' => .cons h' (t.up e)⟩
    | succ i =>
      obtain ⟨O1, o, O2, v, e1, e2, e3, k⟩ := ih (i := i) (by simpa using hi)
      refine ⟨o0 ++ O1, o, O2, v, by rw [e1]; simp only [List.append_assoc], by simpa using e2, e3, fun G' s' v' o' e h' => ?_⟩
      have := Fr.cons (a.up e) (k G' s' v' o' e h')
      rw [show o0 ++ O1 ++ o' ++ O2 = o0 ++ (O1 ++ o' ++ O2) from by simp only [List.append_assoc]]
      exact this
theorem Sx.sub {O' : Ow} (s : Sx B O G H) (h : O'.Sublist O) : Sx B O' G H :=
  ⟨s.ex, fun p hp => s.own p (h.subset hp), (h.map _).nodup s.nd, fun b hb => ⟨(s.bag b hb).1, fun q => (s.bag b hb).2 ((h.map _).subset q)⟩⟩
theorem mid_head {x : Addr × HO} {O1 O2 : Ow} : (O1 ++ [x] ++ O2 ++ O0).Perm (x :: (O1 ++ O2 ++ O0)) := by
  simp only [List.append_assoc, List.singleton_append]
  exact List.perm_middle
theorem mid_out {O1 O2 : Ow} : (O1 ++ [] ++ O2 ++ O0).Sublist (O1 ++ o ++ O2 ++ O0) := by
  simp only [List.append_nil, List.append_assoc]
  exact List.Sublist.append (.refl _) (List.sublist_append_right _ _)
/-- a slot takes a value that stands still -/
theorem Fr.put (h : Fr B G D σ O) {i : Nat} (hi : D[i]? = some s) {α : Type} [Py α] {a : α} {u : V} (r : rp G u a) : ∃ O', Fr B G (D.set i (stv a)) (σ.set i (some u)) O' ∧ O'.Sublist O := by
  obtain ⟨O1, o, O2, v, e1, e2, e3, k⟩ := h.focus hi
  refine ⟨_, k G (stv a) (some u) [] Ex.r ⟨rfl, u, rfl, r⟩, ?_⟩
  rw [e1]
  have := @mid_out [] o O1 O2
  simpa only [List.append_nil] using this
theorem Fr.drop0 (h : Fr B G D σ O) {i : Nat} (hi : D[i]? = some s) (v' : Option V) : ∃ O', Fr B G (D.set i .any) (σ.set i v') O' ∧ O'.Sublist O := by
  obtain ⟨O1, o, O2, v, e1, e2, e3, k⟩ := h.focus hi
  refine ⟨_, k G .any v' [] Ex.r rfl, ?_⟩
  rw [e1]
  have := @mid_out [] o O1 O2
  simpa only [List.append_nil] using this
end
/-- a weaker word of a slot: forgotten, or from now on still -/
inductive Wk1 : Sl → Sl → Prop
  | refl {s : Sl} : Wk1 s s
  | any {s : Sl} : Wk1 s .any
  | rest {α : Type} {i : Py α} {xs : List α} : Wk1 (.ow i xs) (.st (@instPyList α i) xs)
  | restD {β : Type} {i : Py β} {ps : List (Str × β)} : Wk1 (.od i ps) (.st (@instPyDct β i) (Dct.mk ps))
  | restC {κ β : Type} {pk : Py κ} {de : DecidableEq κ} {c : DKey κ} {i : Py β} {ps : List (κ × β)} : Wk1 (.oc pk de c i ps) (.st (@instPyDc κ β pk de c i) (Dc.mk ps))
  | restO {α : Type} {p : PO α} {a : α} : Wk1 (.ov p a) (.st p.py a)
  | ofO {α : Type} {i : Py α} {xs : List α} : Wk1 (.ov (PO.list (@PO.st α i)) xs) (.ow i xs)
  | at {l : Addr} {ws : List V} {js : List Junk} (h : js.length = ws.length) : Wk1 (.ov (PO.at l ws) ()) (.ow instPyJunk js)
  | toO {α : Type} {i : Py α} {xs : List α} : Wk1 (.ow i xs) (.ov (PO.list (@PO.st α i)) xs)
  | le {α β : Type} {p : PO α} {q : PO β} {a : α} {b : β} (h : ∀ (G : Hp) (v : V) (o : Ow), p.rp G v a o → q.rp G v b o) : Wk1 (.ov p a) (.ov q b)
  | some {α : Type} {i : Py α} {a : α} : Wk1 (.st i a) (.st (@instPyOption α i) (Option.some a))
inductive Wk : List Sl → List Sl → Prop
  | nil : Wk [] []
  | cons {s t : Sl} {D E : List Sl} : Wk1 s t → Wk D E → Wk (s :: D) (t :: E)
section
variable {B : Option Addr} {G G' H : Hp} {D E : List Sl} {σ : L2.St} {O O0 R : Ow} {s t : Sl} {v : Option V} {o : Ow}
/-- all of o stands still from now on -/
def updL (G : Hp) : Ow → Hp
  | [] => G
  | q :: o => updL (upd G q.1 q.2) o
theorem Sx.freezeL : ∀ {o : Ow} {G : Hp}, Sx B (o ++ R) G H → Sx B R (updL G o) H ∧ Ex G (updL G o) ∧ ∀ q ∈ o, updL G o q.1 = some q.2
  | [], G, x => ⟨x, Ex.r, fun _ h => nomatch h⟩
  | (p, u) :: o, G, x => by
    obtain ⟨f1, f2⟩ := Sx.freeze (p := p) (o := u) x
    obtain ⟨h1, h2, h3⟩ := Sx.freezeL (o := o) f1
    refine ⟨h1, Ex.t f2 h2, fun q hq => ?_⟩
    rcases List.mem_cons.mp hq with rfl | hq
    · exact h2 _ _ upd_same
    · exact h3 q hq
theorem Wk1.go (w : Wk1 s t) (h : SlOk B G s v o) (x : Sx B (o ++ R) G H) : ∃ G' o', Ex G G' ∧ SlOk B G' t v o' ∧ Sx B (o' ++ R) G' H := by
  cases w with
  | refl => exact ⟨G, o, Ex.r, h, x⟩
  | any => exact ⟨G, [], Ex.r, rfl, x.sub (List.sublist_append_right _ _)⟩
  | some => obtain ⟨h1, u, h2, h3⟩ := h; exact ⟨G, o, Ex.r, ⟨h1, u, h2, h3⟩, x⟩
  | @rest α i xs =>
    obtain ⟨p, ws, h1, h2, h3⟩ := h
    subst h2
    have f := Sx.freeze (p := p) (o := .lst ws) x
    exact ⟨_, [], f.2, ⟨rfl, .ref p, h1, p, ws, rfl, upd_same, @all2_up _ i _ _ f.2 _ _ h3⟩, f.1⟩
  | @restO α p a =>
    obtain ⟨u, h1, h2⟩ := h
    obtain ⟨f1, f2, f3⟩ := Sx.freezeL x
    exact ⟨_, [], f2, ⟨rfl, u, h1, p.frz f2 f3 h2⟩, f1⟩
  | @ofO α i xs =>
    obtain ⟨u, h1, l, ws, r, h2, h3, h4⟩ := h
    obtain ⟨h5, h6⟩ := @PoL.to α i _ _ _ _ h4
    subst h6
    exact ⟨G, o, Ex.r, ⟨l, ws, by rw [h1, h2], h3, h5⟩, x⟩
  | @«at» l ws js hl =>
    obtain ⟨u, h1, h2, h3⟩ := h
    exact ⟨G, o, Ex.r, ⟨l, ws, by rw [h1, h2], h3, junk_all hl⟩, x⟩
  | le hh => obtain ⟨u, h1, h2⟩ := h; exact ⟨G, o, Ex.r, ⟨u, h1, hh _ _ _ h2⟩, x⟩
  | @toO α i xs =>
    obtain ⟨p, ws, h1, h2, h3⟩ := h
    exact ⟨G, o, Ex.r, ⟨.ref p, h1, p, ws, [], rfl, h2, @PoL.of α i _ _ _ h3⟩, x⟩
  | @restC κ β pk de c i ps =>
    obtain ⟨p, kvs, h1, h2, h3⟩ := h
    subst h2
    have f := Sx.freeze (p := p) (o := c.obj kvs) x
    exact ⟨_, [], f.2, ⟨rfl, .ref p, h1, p, kvs, rfl, upd_same, Paired.mapP h3 fun _ _ ⟨a, b⟩ => ⟨a, i.up f.2 b⟩⟩, f.1⟩
  | @restD β i ps =>
    obtain ⟨p, kvs, h1, h2, h3⟩ := h
    subst h2
    have f := Sx.freeze (p := p) (o := .dK kvs) x
    exact ⟨_, [], f.2, ⟨rfl, .ref p, h1, p, kvs, rfl, upd_same, Paired.mapP h3 fun _ _ ⟨a, b⟩ => ⟨a, i.up f.2 b⟩⟩, f.1⟩
theorem app_swap {a b c : Ow} : (a ++ b ++ c).Perm (b ++ (a ++ c)) := by
  rw [← List.append_assoc]
  exact List.Perm.append_right c List.perm_append_comm
theorem Wk.go (w : Wk D E) : ∀ {σ : L2.St} {O O0 : Ow} {G : Hp}, Fr B G D σ O → Sx B (O ++ O0) G H → ∃ G' O', Ex G G' ∧ Fr B G' E σ O' ∧ Sx B (O' ++ O0) G' H := by
  induction w with
  | nil => intro σ O O0 G h x; exact ⟨G, O, Ex.r, h, x⟩
  | cons a _ ih =>
    intro σ O O0 G h x
    cases h with
    | @cons _ v o _ σ1 O1 b h =>
      obtain ⟨G1, o1, e1, b1, x1⟩ := a.go (R := O1 ++ O0) b (by rw [← List.append_assoc]; exact x)
      obtain ⟨G2, O2, e2, h2, x2⟩ := ih (O0 := o1 ++ O0) (h.up e1) (x1.perm (by rw [← List.append_assoc]; exact app_swap))
      exact ⟨G2, o1 ++ O2, Ex.t e1 e2, .cons (b1.up e2) h2, x2.perm app_swap.symm⟩
end
/-! ### what an expression gives -/
abbrev XPost := Option Addr → Ow → Hp → Exn → Prop
def XP0 : XPost := fun _ _ _ _ => False
section
variable {α β γ : Type} [Py α] [Py β] [Py γ]
/-- .. whatever stands about -/
def EvW (B : Option Addr) (O : Ow) (te : TE) (σ : L2.St) (G : Hp) (m : W α) : Prop :=
  ∀ G1 H1, Ex G G1 → Sx B O G1 H1 → ∀ (Q : VK) (E : Exn → Prop), m.run (fun a => ∀ v G2 H2, Ex G1 G2 → Sx B O G2 H2 → rp G2 v a → Q v H2) E → te σ H1 Q
def EW (XP : XPost) (D : List Sl) (te : TE) (m : W α) : Prop :=
  ∀ ⦃B : Option Addr⦄ ⦃O0 O : Ow⦄ ⦃G H : Hp⦄ ⦃σ : L2.St⦄ ⦃Q : VK⦄, Fr B G D σ O → Sx B (O ++ O0) G H → m.run (fun a => ∀ v G2 H2, Ex G G2 → Sx B (O ++ O0) G2 H2 → rp G2 v a → Q v H2) (fun e => ∀ G1, Ex G G1 → XP B O0 G1 e) → te σ H Q
/-- .. a new list of one's own -/
def EWN (XP : XPost) (D : List Sl) (te : TE) (m : W (List α)) : Prop :=
  ∀ ⦃B : Option Addr⦄ ⦃O0 O : Ow⦄ ⦃G H : Hp⦄ ⦃σ : L2.St⦄ ⦃Q : VK⦄, Fr B G D σ O → Sx B (O ++ O0) G H → m.run (fun xs => ∀ p ws G2 H2, Ex G G2 → Sx B ((p, .lst ws) :: (O ++ O0)) G2 H2 → All2 G2 ws xs → Q (.ref p) H2) (fun e => ∀ G1, Ex G G1 → XP B O0 G1 e) → te σ H Q
def EWT (XP : XPost) (D : List Sl) (tt : TT) (m : W Bool) : Prop :=
  ∀ ⦃B : Option Addr⦄ ⦃O0 O : Ow⦄ ⦃G H : Hp⦄ ⦃σ : L2.St⦄ ⦃Q : Bool → Hp → Prop⦄, Fr B G D σ O → Sx B (O ++ O0) G H → m.run (fun b => ∀ G2 H2, Ex G G2 → Sx B (O ++ O0) G2 H2 → Q b H2) (fun e => ∀ G1, Ex G G1 → XP B O0 G1 e) → tt σ H Q
variable {XP : XPost} {D : List Sl} {te ta tb tc : TE} {tt tu : TT}
theorem EW.of {m : W α} (h : ∀ B O σ G, ∀ O0 O1, O = O1 ++ O0 → Fr B G D σ O1 → EvW B O te σ G m) : EW XP D te m := fun _ _ _ _ _ _ _ f s r => h _ _ _ _ _ _ rfl f _ _ Ex.r s _ _ r
theorem EW.ofD {a : α} (h : ∀ B O σ G, ∀ O0 O1, O = O1 ++ O0 → Fr B G D σ O1 → EvD B O te σ G a) : EW XP D te (W.pure a) := fun _ _ _ _ _ _ _ f s r => h _ _ _ _ _ _ rfl f _ _ Ex.r s _ fun v b G2 H2 p e s2 rb => by subst p; exact r v G2 H2 e s2 rb
theorem EW.still {m : W (List α)} (h : EWN XP D te m) : EW XP D te m := fun _ _ _ _ _ _ _ f s r => h f s (m.mono (fun xs k p ws G2 H2 e s2 ra => by
  have z := s2.freeze
  exact k (.ref p) _ H2 (Ex.t e z.2) z.1 ⟨p, ws, rfl, upd_same, all2_up z.2 ra⟩) (fun _ x => x) r)
theorem EW.var {i : Nat} {a : α} (h : D[i]? = some (stv a)) : EW XP D (tVar i) (W.pure a) := fun _ _ _ _ _ _ _ f s r => by
  obtain ⟨_, _, _, v, _, e2, ⟨_, u, e3, ru⟩, _⟩ := f.focus h
  exact ⟨u, by rw [e2, e3], r u _ _ Ex.r s ru⟩
theorem EW.int {i : Int} : EW XP D (tC (.int i)) (W.pure i) := fun _ _ _ _ _ _ _ f s r => r _ _ _ Ex.r s rfl
theorem EW.bl {i : Bool} : EW XP D (tC (.bl i)) (W.pure i) := fun _ _ _ _ _ _ _ f s r => r _ _ _ Ex.r s rfl
theorem EW.str {i : Str} : EW XP D (tC (.str i)) (W.pure i) := fun _ _ _ _ _ _ _ f s r => r _ _ _ Ex.r s rfl
theorem EW.non : EW (α := Option α) XP D (tC .non) (W.pure none) := fun _ _ _ _ _ _ _ f s r => r _ _ _ Ex.r s rfl
theorem EW.unit : EW (α := Unit) XP D (tC .non) (W.pure ()) := fun _ _ _ _ _ _ _ f s r => r _ _ _ Ex.r s rfl
/-- the same value, or None instead -/
theorem EW.opt {m : W α} (h : EW XP D te m) : EW (α := Option α) XP D te (m.bind fun a => W.pure (some a)) := fun _ _ _ _ _ _ _ f s r => h f s r
/-- evaluated first, then the rest at its value -/
theorem EW.lift {C : TE → TE} {m : W α} {g : α → W β} (h : EW XP D te m) (hC : ∀ t σ H Q, C t σ H Q = t σ H (fun v H1 => C (tC v) σ H1 Q)) (r : ∀ x v G B O σ, rp G v x → EvW B O (C (tC v)) σ G (g x)) : EW XP D (C te) (m.bind g) := fun B O0 O G H σ Q f s q => by
  rw [hC]
  exact h f s (m.mono (fun a k v G2 H2 e2 s2 ra => r a v G2 B (O ++ O0) σ ra G2 H2 Ex.r s2 Q _ ((g a).mono (fun z k2 u G3 H3 e3 s3 => k2 u G3 H3 (Ex.t e2 e3) s3) (fun _ x => x) (show (g a).run (fun z => ∀ v G2 H2, Ex G G2 → Sx B (O ++ O0) G2 H2 → rp G2 v z → Q v H2) _ from k))) (fun _ x => x) q)
end
end Dk

set_option Elab.async false
set_option linter.all false
set_option maxRecDepth 100000
set_option maxHeartbeats 1000000
namespace Dk
open PySem PySem.Spec PyProof.Rows L2
open Evl (Ex)
open Py (rp)
open PyD (pic)
section
variable {α β γ δ A ι : Type} [Py α] [Py β] [Py γ] [Py δ] [Py ι] {XP : XPost} {D : List Sl} {te ta tb tc td : TE} {tt tu : TT} {B : Option Addr} {O O0 : Ow} {G G1 G2 H : Hp} {σ : L2.St} {K : PySem.W.Frag}
def PV (B : Option Addr) (O : Ow) (Q : VK) (G : Hp) : α → Prop := fun a => ∀ v G2 H2, Ex G G2 → Sx B O G2 H2 → rp G2 v a → Q v H2
def PX (XP : XPost) (B : Option Addr) (O : Ow) (G : Hp) : Exn → Prop := fun e => ∀ G1, Ex G G1 → XP B O G1 e
theorem PV.up {Q : VK} (e : Ex G G1) (a : α) (h : PV B O Q G a) : PV B O Q G1 a := fun v G2 H2 e2 s r => h v G2 H2 (Ex.t e e2) s r
theorem PX.up (e : Ex G G1) (x : Exn) (h : PX XP B O G x) : PX XP B O G1 x := fun G2 e2 => h G2 (Ex.t e e2)
/-! ### operators -/
def Op2W (r : R2) (x : α) (y : β) (m : W γ) : Prop :=
  ∀ B O G H v w, Sx B O G H → rp G v x → rp G w y → ∀ (Q : VK) (E : Exn → Prop), m.run (PV B O Q G) E → r v w H Q
def Op2WN (r : R2) (x : α) (y : β) (m : W (List γ)) : Prop :=
  ∀ B O G H v w, Sx B O G H → rp G v x → rp G w y → ∀ (Q : VK) (E : Exn → Prop), m.run (fun xs => ∀ p ws G2 H2, Ex G G2 → Sx B ((p, .lst ws) :: O) G2 H2 → All2 G2 ws xs → Q (.ref p) H2) E → r v w H Q
theorem Op2W.of {r : R2} {x : α} {y : β} {z : γ} (h : Op2 r x y (· = z)) : Op2W r x y (W.pure z) := fun B O G H v w s hv hw Q E q => h B O G H v w s hv hw Q fun u c G2 H2 p e s2 ru => by subst p; exact q u G2 H2 e s2 ru
theorem Op2W.chk {r : R2} {x : α} {y : β} {m : W γ} {c : Prop} (h : c → Op2W r x y m) : Op2W r x y (W.chk c m) := fun B O G H v w s hv hw Q E q => h q.1 B O G H v w s hv hw Q E q.2
theorem Op2WN.of {r : R2} {x : α} {y : β} {z : List γ} (h : Op2N r x y (· = z)) : Op2WN r x y (W.pure z) := fun B O G H v w s hv hw Q E q => h B O G H v w s hv hw Q fun p ws c G2 H2 pc e s2 ru => by subst pc; exact q p ws G2 H2 e s2 ru
theorem Op2WN.chk {r : R2} {x : α} {y : β} {m : W (List γ)} {c : Prop} (h : c → Op2WN r x y m) : Op2WN r x y (W.chk c m) := fun B O G H v w s hv hw Q E q => h q.1 B O G H v w s hv hw Q E q.2
theorem EW.op {r : R2} {ma : W α} {mb : W β} {f : α → β → W γ} (ha : EW XP D ta ma) (hb : EW XP D tb mb) (h : ∀ x y, Op2W r x y (f x y)) : EW XP D (tOp r ta tb) (ma.bind fun x => mb.bind fun y => f x y) := fun B O0 O G H σ Q fr s q =>
  ha fr s (ma.mono (fun x k v G2 H2 e2 s2 rv => hb (fr.up e2) s2 (mb.mono (fun y k2 w G3 H3 e3 s3 rw => h x y B (O ++ O0) G3 H3 v w s3 (Py.up e3 rv) rw Q (PX XP B O0 G3) ((f x y).mono (PV.up (Ex.t e2 e3)) (PX.up (Ex.t e2 e3)) k2)) (PX.up e2) k)) (fun _ x => x) q)
theorem EWN.op {r : R2} {ma : W α} {mb : W β} {f : α → β → W (List γ)} (ha : EW XP D ta ma) (hb : EW XP D tb mb) (h : ∀ x y, Op2WN r x y (f x y)) : EWN XP D (tOp r ta tb) (ma.bind fun x => mb.bind fun y => f x y) := fun B O0 O G H σ Q fr s q =>
  ha fr s (ma.mono (fun x k v G2 H2 e2 s2 rv => hb (fr.up e2) s2 (mb.mono (fun y k2 w G3 H3 e3 s3 rw => h x y B (O ++ O0) G3 H3 v w s3 (Py.up e3 rv) rw Q (PX XP B O0 G3) ((f x y).mono (fun xs k3 p ws G4 H4 e4 => k3 p ws G4 H4 (Ex.t (Ex.t e2 e3) e4)) (PX.up (Ex.t e2 e3)) k2)) (PX.up e2) k)) (fun _ x => x) q)
/-- a < b < c -/
theorem EW.chain {r r' : R2} {ma : W α} {mb : W β} {mc : W γ} {f : α → β → W Bool} {g : β → γ → W Bool} (ha : EW XP D ta ma) (hb : EW XP D tb mb) (hc : EW XP D tc mc) (h : ∀ x y, Op2W r x y (f x y)) (h' : ∀ x y, Op2W r' x y (g x y)) :
    EW XP D (tChain r r' ta tb tc) (ma.bind fun x => mb.bind fun y => (f x y).bind fun b => W.ite b (mc.bind fun z => g y z) (W.pure false)) := fun B O0 O G H σ Q fr s q =>
  ha fr s (ma.mono (fun x k v G2 H2 e2 s2 rv => hb (fr.up e2) s2 (mb.mono (fun y k2 w G3 H3 e3 s3 rw => by
    refine h x y B (O ++ O0) G3 H3 v w s3 (Py.up e3 rv) rw _ (PX XP B O0 G3) ((f x y).mono (fun b k3 u G4 H4 e4 s4 ru => ⟨b, ru, ?_⟩) (PX.up (Ex.t e2 e3)) k2)
    have e24 := Ex.t e2 (Ex.t e3 e4)
    cases b with
    | true =>
      rw [if_pos rfl]
      exact hc (fr.up e24) s4 (mc.mono (fun z k5 t G5 H5 e5 s5 rt => h' y z B (O ++ O0) G5 H5 w t s5 (Py.up (Ex.t e4 e5) rw) rt Q (PX XP B O0 G5) ((g y z).mono (PV.up (Ex.t e24 e5)) (PX.up (Ex.t e24 e5)) k5)) (PX.up e24) k3)
    | false =>
      rw [if_neg Bool.false_ne_true]
      exact k3 _ G4 H4 e24 s4 rfl) (PX.up e2) k)) (fun _ x => x) q)
/-! ### truths -/
theorem EWT.val {m : W Bool} (h : EW XP D te m) : EWT XP D (tTest te) m := fun B O0 O G H σ Q fr s q => h fr s (m.mono (fun b k v G2 H2 e s2 r => ⟨b, r, k G2 H2 e s2⟩) (fun _ x => x) q)
theorem EWT.not {m : W Bool} (h : EWT XP D tt m) : EWT XP D (tNot tt) (m.bind fun b => W.pure (!b)) := fun B O0 O G H σ Q fr s q => h fr s (m.mono (fun b k G2 H2 e s2 => k G2 H2 e s2) (fun _ x => x) q)
theorem EWT.and {m n : W Bool} (h : EWT XP D tt m) (h' : EWT XP D tu n) : EWT XP D (tAnd tt tu) (m.bind fun b => W.ite b n (W.pure false)) := fun B O0 O G H σ Q fr s q => h fr s (m.mono (fun b k G2 H2 e s2 => by
  cases b with
  | true => exact h' (fr.up e) s2 (n.mono (fun c k2 G3 H3 e3 => k2 G3 H3 (Ex.t e e3)) (PX.up e) k)
  | false => exact k G2 H2 e s2) (fun _ x => x) q)
theorem EWT.or {m n : W Bool} (h : EWT XP D tt m) (h' : EWT XP D tu n) : EWT XP D (tOr tt tu) (m.bind fun b => W.ite b (W.pure true) n) := fun B O0 O G H σ Q fr s q => h fr s (m.mono (fun b k G2 H2 e s2 => by
  cases b with
  | false => exact h' (fr.up e) s2 (n.mono (fun c k2 G3 H3 e3 => k2 G3 H3 (Ex.t e e3)) (PX.up e) k)
  | true => exact k G2 H2 e s2) (fun _ x => x) q)
theorem EW.not {m : W Bool} (h : EW XP D te m) : EW XP D (tNotV te) (m.bind fun b => W.pure (!b)) := fun B O0 O G H σ Q fr s q => h fr s (m.mono (fun b k v G2 H2 e s2 r => ⟨b, r, k _ G2 H2 e s2 rfl⟩) (fun _ x => x) q)
theorem EW.and {m n : W Bool} (h : EW XP D ta m) (h' : EW XP D tb n) : EW XP D (tAndV ta tb) (m.bind fun b => W.ite b n (W.pure false)) := fun B O0 O G H σ Q fr s q => h fr s (m.mono (fun b k v G2 H2 e s2 r => ⟨b, r, by
  cases b with
  | true => exact h' (fr.up e) s2 (n.mono (fun c k2 v3 G3 H3 e3 => k2 v3 G3 H3 (Ex.t e e3)) (PX.up e) k)
  | false => exact k _ G2 H2 e s2 rfl⟩) (fun _ x => x) q)
theorem EW.or {m n : W Bool} (h : EW XP D ta m) (h' : EW XP D tb n) : EW XP D (tOrV ta tb) (m.bind fun b => W.ite b (W.pure true) n) := fun B O0 O G H σ Q fr s q => h fr s (m.mono (fun b k v G2 H2 e s2 r => ⟨b, r, by
  cases b with
  | false => exact h' (fr.up e) s2 (n.mono (fun c k2 v3 G3 H3 e3 => k2 v3 G3 H3 (Ex.t e e3)) (PX.up e) k)
  | true => exact k _ G2 H2 e s2 rfl⟩) (fun _ x => x) q)
theorem EW.ifE {mc : W Bool} {m n : W α} (h : EWT XP D tt mc) (h1 : EW XP D ta m) (h2 : EW XP D tb n) : EW XP D (tIf tt ta tb) (mc.bind fun b => W.ite b m n) := fun B O0 O G H σ Q fr s q => h fr s (mc.mono (fun b k G2 H2 e s2 => by
  cases b with
  | true => exact h1 (fr.up e) s2 (m.mono (PV.up e) (PX.up e) k)
  | false => exact h2 (fr.up e) s2 (n.mono (PV.up e) (PX.up e) k)) (fun _ x => x) q)
theorem EWN.ifE {mc : W Bool} {m n : W (List α)} (h : EWT XP D tt mc) (h1 : EWN XP D ta m) (h2 : EWN XP D tb n) : EWN XP D (tIf tt ta tb) (mc.bind fun b => W.ite b m n) := fun B O0 O G H σ Q fr s q => h fr s (mc.mono (fun b k G2 H2 e s2 => by
  cases b with
  | true => exact h1 (fr.up e) s2 (m.mono (fun xs k p ws G3 H3 e3 => k p ws G3 H3 (Ex.t e e3)) (PX.up e) k)
  | false => exact h2 (fr.up e) s2 (n.mono (fun xs k p ws G3 H3 e3 => k p ws G3 H3 (Ex.t e e3)) (PX.up e) k)) (fun _ x => x) q)
/-! ### arguments -/
structure AR (A : Type) where
  rel : Option Addr → Hp → List V → A → Prop
  up : ∀ {B : Option Addr} {G G' : Hp} {vs : List V} {a : A}, Ex G G' → rel B G vs a → rel B G' vs a
def aN : AR Unit := ⟨fun _ _ vs _ => vs = [], fun _ h => h⟩
def aC (r : AR A) : AR (α × A) := ⟨fun B G vs p => ∃ v ws, vs = v :: ws ∧ rp G v p.1 ∧ r.rel B G ws p.2, fun e ⟨v, ws, h1, h2, h3⟩ => ⟨v, ws, h1, Py.up e h2, r.up e h3⟩⟩
def aB (r : AR A) : AR A := ⟨fun B G vs a => ∃ b ws, B = some b ∧ vs = .ref b :: ws ∧ r.rel B G ws a, fun e ⟨v, ws, h1, h2, h3⟩ => ⟨v, ws, h1, h2, r.up e h3⟩⟩
def EWA (XP : XPost) (D : List Sl) (t : TA) (ar : AR A) (m : W A) : Prop :=
  ∀ ⦃B : Option Addr⦄ ⦃O0 O : Ow⦄ ⦃G H : Hp⦄ ⦃σ : L2.St⦄ ⦃Q : List V → Hp → Prop⦄, Fr B G D σ O → Sx B (O ++ O0) G H → m.run (fun a => ∀ vs G2 H2, Ex G G2 → Sx B (O ++ O0) G2 H2 → ar.rel B G2 vs a → Q vs H2) (PX XP B O0 G) → t σ H Q
theorem EWA.nil : EWA XP D tNil aN (W.pure ()) := fun _ _ _ _ _ _ _ fr s q => q [] _ _ Ex.r s rfl
theorem EWA.cons {tr : TA} {ar : AR A} {m : W α} {mr : W A} (h : EW XP D te m) (hr : EWA XP D tr ar mr) : EWA XP D (tCons te tr) (aC ar) (m.bind fun a => mr.bind fun r => W.pure (a, r)) := fun B O0 O G H σ Q fr s q =>
  h fr s (m.mono (fun a k v G2 H2 e2 s2 rv => hr (fr.up e2) s2 (mr.mono (fun r k2 ws G3 H3 e3 s3 rr => k2 (v :: ws) G3 H3 (Ex.t e2 e3) s3 ⟨v, ws, rfl, Py.up e3 rv, rr⟩) (PX.up e2) k)) (fun _ x => x) q)
theorem EWA.bag {tr : TA} {ar : AR A} {mr : W A} {i : Nat} (hi : D[i]? = some .bag) (hr : EWA XP D tr ar mr) : EWA XP D (tCons (tVar i) tr) (aB ar) mr := fun B O0 O G H σ Q fr s q => by
  obtain ⟨_, _, _, v, _, e2, ⟨_, b, e3, e4⟩, _⟩ := fr.focus hi
  exact ⟨.ref b, by rw [e2, e4], hr fr s (mr.mono (fun a k ws G2 H2 e s2 r => k (.ref b :: ws) G2 H2 e s2 ⟨b, ws, e3, rfl, r⟩) (fun _ x => x) q)⟩
/-! ### promises of defs -/
def SpV (XE : XK → XPost) (ar : AR A) (m : A → W γ) : Sp := fun vs H Q E => ∃ B O G a, Sx B O G H ∧ ar.rel B G vs a ∧ (m a).run (PV B O Q G) (PX (XE E) B O G)
def SpO (XE : XK → XPost) (ar : AR A) (m : A → W (List γ)) : Sp := fun vs H Q E => ∃ B O G a, Sx B O G H ∧ ar.rel B G vs a ∧ (m a).run (fun xs => ∀ p ws G2 H2, Ex G G2 → Sx B ((p, .lst ws) :: O) G2 H2 → All2 G2 ws xs → Q (.ref p) H2) (PX (XE E) B O G)
def SpU (XE : XK → XPost) (ar : AR A) (m : A → W Unit) : Sp := fun vs H Q E => ∃ B O G a, Sx B O G H ∧ ar.rel B G vs a ∧ (m a).run (fun _ => ∀ G2 H2, Ex G G2 → Sx B O G2 H2 → Q .non H2) (PX (XE E) B O G)
abbrev XE0 : XK → XPost := fun _ => XP0
def W.nox {α : Type} (m : W α) : W α := ⟨fun Q _ => m.run Q fun _ => False, fun h _ x => m.mono h (fun _ q => q) x⟩
theorem PX0 (x : Exn) (h : PX XP0 B O G x) : False := h G Ex.r
theorem EW.call {ta : TA} {ar : AR A} {ma : W A} {m : A → W γ} {E : XK} (h : EWA XP0 D ta ar ma) : EW XP0 D (tCall (SpV XE0 ar m) [] E ta) (ma.bind m) := fun B O0 O G H σ Q fr s q =>
  h fr s (ma.mono (fun a k vs G2 H2 e s2 r => ⟨B, O ++ O0, G2, a, s2, by rw [List.append_nil]; exact r, (m a).mono (PV.up e) (fun x hx => (PX0 x hx).elim) k⟩) (fun _ x => x) q)
theorem EWN.call {ta : TA} {ar : AR A} {ma : W A} {m : A → W (List γ)} {E : XK} (h : EWA XP0 D ta ar ma) : EWN XP0 D (tCall (SpO XE0 ar m) [] E ta) (ma.bind m) := fun B O0 O G H σ Q fr s q =>
  h fr s (ma.mono (fun a k vs G2 H2 e s2 r => ⟨B, O ++ O0, G2, a, s2, by rw [List.append_nil]; exact r, (m a).mono (fun xs k2 p ws G3 H3 e3 => k2 p ws G3 H3 (Ex.t e e3)) (fun x hx => (PX0 x hx).elim) k⟩) (fun _ x => x) q)
/-- .. from a frame that errors may leave -/
theorem EW.callQ {ta : TA} {ar : AR A} {ma : W A} {m : A → W γ} {E : XK} (h : EWA XP D ta ar ma) : EW XP D (tCall (SpV XE0 ar m) [] E ta) (ma.bind fun a => (m a).nox) := fun B O0 O G H σ Q fr s q =>
  h fr s (ma.mono (fun a k vs G2 H2 e s2 r => ⟨B, O ++ O0, G2, a, s2, by rw [List.append_nil]; exact r, (m a).mono (PV.up e) (fun x hx => hx.elim) k⟩) (fun _ x => x) q)
theorem EWN.callQ {ta : TA} {ar : AR A} {ma : W A} {m : A → W (List γ)} {E : XK} (h : EWA XP D ta ar ma) : EWN XP D (tCall (SpO XE0 ar m) [] E ta) (ma.bind fun a => (m a).nox) := fun B O0 O G H σ Q fr s q =>
  h fr s (ma.mono (fun a k vs G2 H2 e s2 r => ⟨B, O ++ O0, G2, a, s2, by rw [List.append_nil]; exact r, (m a).mono (fun xs k2 p ws G3 H3 e3 => k2 p ws G3 H3 (Ex.t e e3)) (fun x hx => hx.elim) k⟩) (fun _ x => x) q)
end
end Dk

set_option Elab.async false
set_option linter.all false
set_option maxRecDepth 100000
set_option maxHeartbeats 1000000
namespace Dk
open PySem PySem.Spec PyProof.Rows L2
open Evl (Ex)
open Py (rp)
open PyD (pic)
/-! ### targets -/
section
variable {α β γ δ A ι κ S S' R L : Type} [Py α] [Py β] [Py γ] [Py δ] [Py ι] {XP : XPost} {D D1 D2 : List Sl} {te ta tb tc td : TE} {tt tu : TT} {ts tz tw : TS} {B : Option Addr} {O O0 : Ow} {G G1 G2 H : Hp} {σ : L2.St} {K : PySem.W.Frag} {g : TG}
/-- what owns nothing -/
def Sl.free : Sl → Bool
  | .ow _ _ => false
  | .od _ _ => false
  | .ov _ _ => false
  | .oc _ _ _ _ _ => false
  | _ => true
theorem SlOk.free {s : Sl} {v : Option V} {o : Ow} (h : SlOk B G s v o) (f : s.free = true) : o = [] := by
  cases s with
  | any => exact h
  | bag => exact h.1
  | st i a => exact h.1
  | ow i xs => cases f
  | od i ps => cases f
  | ov p a => cases f
  | oc pk de c i ps => cases f
theorem Fr.putF (h : Fr B G D σ O) {i : Nat} {s s' : Sl} {v : Option V} (hi : D[i]? = some s) (f : s.free = true) (k : SlOk B G s' v []) : Fr B G (D.set i s') (σ.set i v) O := by
  obtain ⟨O1, o, O2, v, e1, e2, e3, z⟩ := h.focus hi
  have := e3.free f
  subst this
  rw [e1]
  exact z G s' _ [] Ex.r k
/-- a target: the slots ws, which own nothing, take what x says -/
def TgW (g : TG) (ws : List Nat) (D : List Sl) (f : α → List Sl) : Prop :=
  ∀ ⦃B : Option Addr⦄ ⦃O0 O : Ow⦄ ⦃G H : Hp⦄ ⦃σ : L2.St⦄ ⦃v : V⦄ ⦃x : α⦄ ⦃Q : L2.St → Hp → Prop⦄, Fr B G D σ O → Sx B (O ++ O0) G H → rp G v x → (∀ σ', Fr B G (f x) σ' O → wipe σ' ws = wipe σ ws → Q σ' H) → g v σ H Q
theorem wipe_get {ws : List Nat} {σ : L2.St} {i : Nat} : (wipe σ ws)[i]? = if i ∈ ws then (σ[i]?).map (fun _ => none) else σ[i]? := by
  induction ws with
  | nil => simp [wipe]
  | cons j ws ih =>
    unfold wipe
    rw [List.getElem?_set]
    by_cases e : j = i
    · subst e
      rw [if_pos rfl, if_pos (List.mem_cons_self ..)]
      by_cases hl : j < σ.length
      · rw [wipe_length, if_pos hl, List.getElem?_eq_getElem hl]; rfl
      · rw [wipe_length, if_neg hl, List.getElem?_eq_none (by omega)]; rfl
    · rw [if_neg e, ih]
      have : i ∈ j :: ws ↔ i ∈ ws := ⟨fun h => (List.mem_cons.mp h).resolve_left (fun q => e q.symm), List.mem_cons_of_mem _⟩
      simp only [this]
theorem wipe_set {ws : List Nat} {σ : L2.St} {i : Nat} {v : Option V} (h : i ∈ ws) : wipe (σ.set i v) ws = wipe σ ws := by
  refine List.ext_getElem? fun k => ?_
  rw [wipe_get, wipe_get]
  by_cases hk : k ∈ ws
  · rw [if_pos hk, if_pos hk, List.getElem?_set]
    by_cases e : i = k
    · subst e
      rw [if_pos rfl]
      by_cases hl : i < σ.length
      · rw [if_pos hl, List.getElem?_eq_getElem hl]; rfl
      · rw [if_neg hl, List.getElem?_eq_none (by omega)]
    · rw [if_neg e]
  · rw [if_neg hk, if_neg hk, List.getElem?_set_ne (fun (e : i = k) => hk (e ▸ h))]
theorem wipe_idem {ws : List Nat} {σ : L2.St} : wipe (wipe σ ws) ws = wipe σ ws := by
  refine List.ext_getElem? fun k => ?_
  rw [wipe_get, wipe_get]
  by_cases hk : k ∈ ws
  · rw [if_pos hk, if_pos hk]; cases σ[k]? <;> rfl
  · rw [if_neg hk, if_neg hk]
theorem wipe_app {ws vs : List Nat} {σ : L2.St} : wipe σ (ws ++ vs) = wipe (wipe σ ws) vs := by
  refine List.ext_getElem? fun k => ?_
  rw [wipe_get, wipe_get, wipe_get]
  by_cases h1 : k ∈ ws <;> by_cases h2 : k ∈ vs <;> simp [h1, h2]
  cases σ[k]? <;> rfl
theorem wipe_comm {ws vs : List Nat} {σ : L2.St} : wipe (wipe σ ws) vs = wipe (wipe σ vs) ws := by
  refine List.ext_getElem? fun k => ?_
  rw [wipe_get, wipe_get, wipe_get, wipe_get]
  by_cases h1 : k ∈ ws <;> by_cases h2 : k ∈ vs <;> simp [h1, h2]
theorem TgW.name {i : Nat} {s : Sl} (hi : D[i]? = some s) (hf : s.free = true) : TgW (α := α) (gName i) [i] D fun x => D.set i (stv x) := fun B O0 O G H σ v x Q fr s r k =>
  k _ (fr.putF hi hf ⟨rfl, v, rfl, r⟩) (wipe_set (List.mem_cons_self ..))
theorem TgW.pair {g1 g2 : TG} {ws vs : List Nat} {f1 : α → List Sl} {f2 : α → β → List Sl} (h1 : TgW g1 ws D f1) (h2 : ∀ a, TgW g2 vs (f1 a) (f2 a)) : TgW (α := α × β) (gTup K 2 (gCons g1 (gCons g2 gNil))) (ws ++ vs) D fun p => f2 p.1 p.2 := fun B O0 O G H σ v x Q fr s r k => by
  obtain ⟨p, y, z, rfl, hp, ry, rz⟩ := r
  exact ⟨p, [y, z], rfl, SqT.of (s.ex p _ hp), rfl, y, [z], rfl, h1 fr s ry fun σ1 fr1 w1 => ⟨z, [], rfl, h2 x.1 fr1 s rz fun σ2 fr2 w2 => ⟨rfl, k σ2 fr2 (by
    rw [wipe_app, wipe_comm, w2, wipe_comm, w1, ← wipe_app])⟩⟩⟩
theorem sub_app {O' : Ow} (s : Sx B (O ++ O0) G H) (h : O'.Sublist O) : Sx B (O' ++ O0) G H := s.sub (h.append (.refl _))
/-! ### walks -/
def ItOk (B : Option Addr) (J : It) (G1 : Hp) (xs : List ι) : Prop :=
  ∀ i O G2 H, Ex G1 G2 → Sx B O G2 H → (∀ x, xs[i]? = some x → J.go i H ∧ ∀ v H3, J.yld i H v H3 → ∃ G3, Ex G2 G3 ∧ Sx B O G3 H3 ∧ rp G3 v x) ∧ (i = xs.length → J.stop i H)
def EWI (XP : XPost) (D : List Sl) (wi : TI) (m : W (List ι)) : Prop :=
  ∀ ⦃B : Option Addr⦄ ⦃O0 O : Ow⦄ ⦃G H : Hp⦄ ⦃σ : L2.St⦄ ⦃R : It → Hp → Prop⦄, Fr B G D σ O → Sx B (O ++ O0) G H → m.run (fun xs => ∀ J G2 H2, Ex G G2 → Sx B (O ++ O0) G2 H2 → ItOk B J G2 xs → R J H2) (PX XP B O0 G) → wi σ H R
theorem EWI.list {tl : TE} {m : W (List ι)} (h : EW XP D tl m) : EWI XP D (iList K tl) m := fun B O0 O G H σ Q fr s q => h fr s (m.mono (fun xs k v G2 H2 e s2 ⟨a, vs, ev, ha, ra⟩ =>
  ⟨a, ev, ⟨vs, SqL.of (s2.ex a _ ha)⟩, k _ G2 H2 e s2 fun i O3 G3 H3 e3 s3 => by
    have sq : SqL K H3 a vs := SqL.of (s3.ex a _ (e3 a _ ha))
    refine ⟨fun x hx => ?_, fun hi => ⟨vs, sq, by rw [hi, all2_len ra]; exact Nat.le_refl _⟩⟩
    obtain ⟨y, hy, ry⟩ := all2_get ra hx
    refine ⟨⟨vs, y, sq, hy⟩, fun v H4 ⟨eH, hv⟩ => ⟨G3, Ex.r, by rw [eH]; exact s3, ?_⟩⟩
    have := hv vs sq
    rw [hy] at this
    cases this
    exact Py.up e3 ry⟩) (fun _ x => x) q)
def rangeL (n : Int) : List Int := (List.range n.toNat).map fun i : Nat => (i : Int)
def rangeL2 (i j : Int) : List Int := (List.range (j - i).toNat).map fun k : Nat => i + (k : Int)
theorem EWI.range1 {tl : TE} {m : W Int} (h : EW XP D tl m) : EWI XP D (iRng1 (tCons tl tNil)) (m.bind fun n => W.chk (-1000000 ≤ n ∧ n ≤ 1000000) (W.pure (rangeL n))) := fun B O0 O G H σ Q fr s q => h fr s (m.mono (fun n ⟨c, k⟩ v G2 H2 e s2 r =>
  ⟨n, by rw [r], by omega, by omega, k _ G2 H2 e s2 fun i O3 G3 H3 e3 s3 => by
    have hl : (rangeL n).length = n.toNat := by unfold rangeL; rw [List.length_map, List.length_range]
    refine ⟨fun x hx => ?_, fun hi => by rw [hi, hl]; exact Nat.le_refl _⟩
    have hx' := ints_at hx
    refine ⟨hx'.2, fun v H4 ⟨eH, hv⟩ => ⟨G3, Ex.r, by rw [eH]; exact s3, ?_⟩⟩
    rw [hv, hx'.1, Int.zero_add]
    rfl⟩) (fun _ x => x) q)
theorem EWI.range2 {tl th : TE} {m n : W Int} (h : EW XP D tl m) (h' : EW XP D th n) : EWI XP D (iRng2 (tCons tl (tCons th tNil))) (m.bind fun i => n.bind fun j => W.chk (-1000000 ≤ i ∧ i ≤ 1000000 ∧ -1000000 ≤ j ∧ j ≤ 1000000) (W.pure (rangeL2 i j))) := fun B O0 O G H σ Q fr s q =>
  h fr s (m.mono (fun a k v G2 H2 e s2 r => h' (fr.up e) s2 (n.mono (fun b ⟨c, k⟩ w G3 H3 e3 s3 r3 => ⟨a, b, by rw [r, r3], ⟨by omega, by omega, by omega, by omega⟩, k _ G3 H3 (Ex.t e e3) s3 fun i O4 G4 H4 e4 s4 => by
    have hl : (rangeL2 a b).length = (b - a).toNat := by unfold rangeL2; rw [List.length_map, List.length_range]
    refine ⟨fun x hx => ?_, fun hi => by rw [hi, hl]; exact Nat.le_refl _⟩
    unfold rangeL2 at hx
    rw [List.getElem?_map] at hx
    by_cases hlt : i < (b - a).toNat
    · rw [List.getElem?_range hlt] at hx
      refine ⟨hlt, fun v H5 ⟨eH, hv⟩ => ⟨G4, Ex.r, by rw [eH]; exact s4, ?_⟩⟩
      rw [hv]
      cases hx
      rfl
    · rw [List.getElem?_eq_none (by rw [List.length_range]; omega)] at hx
      cases hx⟩) (PX.up e) k)) (fun _ x => x) q)
theorem pair_still {x : α} {y : β} {T : Addr} {u w : V} {o : Ow} (s : Sx B o G H) (hT : H T = none) (ru : rp G u x) (rw : rp G w y) : ∃ G3, Ex G G3 ∧ Sx B o G3 (upd H T (.tup [u, w])) ∧ rp G3 (.ref T) (x, y) :=
  ⟨_, s.grow hT, s.still hT, T, u, w, rfl, upd_same, Py.up (s.grow hT) ru, Py.up (s.grow hT) rw⟩
def enumL (xs : List α) : List (Int × α) := xs.mapIdx fun i x => ((i : Int), x)
theorem enumL_len (xs : List α) : (enumL xs).length = xs.length := List.length_mapIdx
theorem enumL_at {xs : List α} {i : Nat} {p : Int × α} (h : (enumL xs)[i]? = some p) : p.1 = (i : Int) ∧ xs[i]? = some p.2 := by
  unfold enumL at h
  rw [List.getElem?_mapIdx] at h
  cases e : xs[i]? with
  | none => rw [e] at h; cases h
  | some x => rw [e] at h; cases h; exact ⟨rfl, rfl⟩
theorem EWI.enum {tl : TE} {m : W (List α)} (h : EW XP D tl m) : EWI XP D (iEnum K (tCons tl tNil)) (m.bind fun xs => W.pure (enumL xs)) := fun B O0 O G H σ Q fr s q => h fr s (m.mono (fun xs k v G2 H2 e s2 ⟨a, vs, ev, ha, ra⟩ =>
  ⟨a, vs, by rw [ev], SqL.of (s2.ex a _ ha), k _ G2 H2 e s2 fun i O3 G3 H3 e3 s3 => by
    have sq : SqL K H3 a vs := SqL.of (s3.ex a _ (e3 a _ ha))
    have wk := walk_enum (K := K) (a := a) (xs := vs)
    refine ⟨fun p hp => ?_, fun hi => by rw [hi, enumL_len, ← all2_len ra]; exact wk.stops H3 sq⟩
    obtain ⟨h1, h2⟩ := enumL_at hp
    obtain ⟨y, hy, ry⟩ := all2_get ra h2
    have hi : i < vs.length := (List.getElem?_eq_some_iff.mp hy).1
    refine ⟨wk.goes i H3 hi sq, fun v H4 hv => ?_⟩
    obtain ⟨T, x1, x2, rfl, hT, rfl, z1, z2⟩ := wk.yields i H3 v H4 hi sq hv
    cases z1
    have z2 : vs[i]? = some x2 := z2
    rw [hy] at z2
    cases z2
    exact pair_still (x := p.1) (y := p.2) s3 hT (by rw [h1]; rfl) (Py.up e3 ry)⟩) (fun _ x => x) q)
theorem EWI.zip {tl th : TE} {m : W (List α)} {n : W (List β)} (h : EW XP D tl m) (h' : EW XP D th n) : EWI XP D (iZip K (tCons tl (tCons th tNil))) (m.bind fun xs => n.bind fun ys => W.pure (xs.zip ys)) := fun B O0 O G H σ Q fr s q =>
  h fr s (m.mono (fun xs k v G2 H2 e s2 ⟨a, vs, ev, ha, ra⟩ => h' (fr.up e) s2 (n.mono (fun ys k w G3 H3 e3 s3 ⟨b, us, eu, hb, rb⟩ => ⟨a, b, vs, us, by rw [ev, eu], SqL.of (s3.ex a _ (e3 a _ ha)), SqL.of (s3.ex b _ hb), k _ G3 H3 (Ex.t e e3) s3 fun i O4 G4 H4 e4 s4 => by
    have sq : SqL K H4 a vs := SqL.of (s4.ex a _ (e4 a _ (e3 a _ ha)))
    have sr : SqL K H4 b us := SqL.of (s4.ex b _ (e4 b _ hb))
    have wk := walk_zip (K := K) (a := a) (b := b) (xs := vs) (ys := us) rfl
    refine ⟨fun p hp => ?_, fun hi => by rw [hi, List.length_zip, ← all2_len ra, ← all2_len rb]; exact wk.stops H4 ⟨sq, sr⟩⟩
    rw [List.getElem?_zip_eq_some] at hp
    obtain ⟨y, hy, ry⟩ := all2_get ra hp.1
    obtain ⟨z, hz, rz⟩ := all2_get rb hp.2
    have hi : i < min vs.length us.length := by
      have := (List.getElem?_eq_some_iff.mp hy).1
      have := (List.getElem?_eq_some_iff.mp hz).1
      omega
    refine ⟨wk.goes i H4 hi ⟨sq, sr⟩, fun v H5 hv => ?_⟩
    obtain ⟨T, x1, x2, rfl, hT, rfl, z1, z2⟩ := wk.yields i H4 v H5 hi ⟨sq, sr⟩ hv
    have z1 : vs[i]? = some x1 := z1
    have z2 : us[i]? = some x2 := z2
    rw [hy] at z1
    rw [hz] at z2
    cases z1; cases z2
    exact pair_still (x := p.1) (y := p.2) s4 hT (Py.up (Ex.t e3 e4) ry) (Py.up e4 rz)⟩) (PX.up e) k)) (fun _ x => x) q)
theorem EWI.rev {tl : TE} {m : W (List α)} (h : EW XP D tl m) : EWI XP D (iRev K (tCons tl tNil)) (m.bind fun xs => W.pure xs.reverse) := fun B O0 O G H σ Q fr s q => h fr s (m.mono (fun xs k v G2 H2 e s2 ⟨a, vs, ev, ha, ra⟩ =>
  ⟨a, vs, by rw [ev], SqL.of (s2.ex a _ ha), k _ G2 H2 e s2 fun i O3 G3 H3 e3 s3 => by
    have sq : SqL K H3 a vs := SqL.of (s3.ex a _ (e3 a _ ha))
    have wk := walk_rev (K := K) (a := a) (xs := vs)
    refine ⟨fun p hp => ?_, fun hi => by rw [hi, List.length_reverse, ← all2_len ra]; exact wk.stops H3 sq⟩
    obtain ⟨y, hy, ry⟩ := all2_get (all2_rev ra) hp
    have hi : i < vs.length := by have := (List.getElem?_eq_some_iff.mp hy).1; rw [List.length_reverse] at this; exact this
    refine ⟨wk.goes i H3 hi sq, fun v H4 hv => ?_⟩
    obtain ⟨rfl, z⟩ := wk.yields i H3 v H4 hi sq hv
    rw [List.getElem?_reverse hi, z] at hy
    cases hy
    exact ⟨G3, Ex.r, s3, Py.up e3 ry⟩⟩) (fun _ x => x) q)
/-- the signs of a text -/
def signs (z : Str) : List Str := z.cps.toList.map fun c => ⟨#[c]⟩
theorem EWI.str {tl : TE} {m : W Str} (h : EW XP D tl m) : EWI XP D (iStr tl) (m.bind fun z => W.chk (z.length ≤ 1000000) (W.pure (signs z))) := fun B O0 O G H σ Q fr s q => h fr s (m.mono (fun z ⟨c, k⟩ v G2 H2 e s2 r =>
  ⟨z, r, k _ G2 H2 e s2 fun i O3 G3 H3 e3 s3 => by
    have wk := walk_str (z := z)
    have hl : (signs z).length = z.cps.size := by unfold signs; rw [List.length_map, Array.length_toList]
    refine ⟨fun p hp => ?_, fun hi => by rw [hi, hl]; exact wk.stops H3 trivial⟩
    have hi : i < z.cps.size := by have := (List.getElem?_eq_some_iff.mp hp).1; rw [hl] at this; exact this
    refine ⟨wk.goes i H3 hi trivial, fun v H4 hv => ?_⟩
    obtain ⟨rfl, d, hd, rfl⟩ := wk.yields i H3 v H4 hi trivial hv
    refine ⟨G3, Ex.r, s3, ?_⟩
    unfold signs at hp
    rw [List.getElem?_map, Array.getElem?_toList, hd] at hp
    cases hp
    rfl⟩) (fun _ x => x) q)
end
end Dk

set_option Elab.async false
set_option linter.all false
set_option maxRecDepth 100000
set_option maxHeartbeats 1000000
namespace Dk
open PySem PySem.Spec PyProof.Rows L2
open Evl (Ex)
open Py (rp)
open PyD (pic)
section
variable {α β γ δ A ι κ S S' S2 R L : Type} [Py α] [Py β] [Py γ] [Py δ] [Py ι] {XP : XPost} {D D1 D2 : List Sl} {te ta tb tc td : TE} {tt tu : TT} {ts tz tw : TS} {B : Option Addr} {O O0 : Ow} {G G1 G2 H : Hp} {σ : L2.St} {K : PySem.W.Frag} {g : TG} {wi : TI}
/-! ### comprehensions -/
/-- D with the slots ws forgotten -/
def forget (D : List Sl) : List Nat → List Sl
  | [] => D
  | i :: ws => (forget D ws).set i .any
theorem forget_at : ∀ {ws : List Nat} {i : Nat} {s : Sl}, D[i]? = some s → s.free = true → ∃ t, (forget D ws)[i]? = some t ∧ t.free = true := by
  intro ws
  induction ws with
  | nil => intro i s h f; exact ⟨s, h, f⟩
  | cons j ws ih =>
    intro i s h f
    obtain ⟨t, h1, h2⟩ := ih h f
    unfold forget
    rw [List.getElem?_set]
    by_cases e : j = i
    · subst e
      rw [if_pos rfl, if_pos (List.getElem?_eq_some_iff.mp h1).1]
      exact ⟨.any, rfl, rfl⟩
    · rw [if_neg e]; exact ⟨t, h1, h2⟩
theorem Fr.forget (fr : Fr B G D σ O) : ∀ {ws : List Nat}, (∀ i ∈ ws, ∃ s, D[i]? = some s ∧ s.free = true) → Fr B G (forget D ws) (wipe σ ws) O := by
  intro ws
  induction ws with
  | nil => intro _; exact fr
  | cons j ws ih =>
    intro h
    have f := ih fun i hi => h i (List.mem_cons_of_mem _ hi)
    obtain ⟨s, h1, h2⟩ := h j (List.mem_cons_self ..)
    obtain ⟨t, g1, g2⟩ := forget_at (ws := ws) h1 h2
    exact f.putF g1 g2 rfl
/-- the accumulator beside what is owned -/
theorem acc_in {x : Addr × HO} {o r : Ow} : (x :: (o ++ r)).Perm (o ++ (x :: r)) := List.perm_middle.symm
theorem px0_any {B' : Option Addr} {O' : Ow} {G' : Hp} (x : Exn) (h : PX XP0 B O G x) : PX XP0 B' O' G' x := (h G Ex.r).elim
theorem EWN.lc {ws : List Nat} {m : W (List ι)} {f : ι → List Sl} {mt : ι → W Bool} {me : ι → W β} (hi : EWI XP0 D wi m) (hw : ∀ i ∈ ws, ∃ s, D[i]? = some s ∧ s.free = true) (hg : TgW g ws (forget D ws) f)
    (ht : ∀ x, EWT XP0 (f x) tt (mt x)) (he : ∀ x, EW XP0 (f x) te (me x)) : EWN XP0 D (tLc wi g tt te ws) (m.bind fun xs => W.chk (xs.length ≤ 1000000) (W.mapf mt me xs)) := fun B O0 O G H σ Q fr s q =>
  hi fr s (m.mono (fun xs ⟨c, k⟩ J G1 H1 e1 s1 hJ Dl hD => by
    let Post : List β → Prop := fun ys => ∀ p ws G2 H2, Ex G G2 → Sx B ((p, .lst ws) :: (O ++ O0)) G2 H2 → All2 G2 ws ys → Q (.ref p) H2
    let Wv : Nat → Hp → Prop := fun i H => i ≤ xs.length ∧ ∃ G2 acc ys, Ex G1 G2 ∧ Sx B ((Dl, .lst acc) :: (O ++ O0)) G2 H ∧ All2 G2 acc ys ∧ ys.length ≤ i ∧ (W.mapf mt me (xs.drop i)).run (fun zs => Post (ys ++ zs)) (PX XP0 B O0 G)
    refine ⟨fun i m H => m = xs.length - i ∧ Wv i H, ⟨xs.length, by simp, Nat.zero_le _, G1, [], [], Ex.r, s1.mine hD, .nil, Nat.le_refl _, k⟩, ?_⟩
    rintro i m H2 ⟨rfl, hi, G2, acc, ys, e2, s2, r2, hl, k2⟩
    have ok := hJ i _ G2 H2 e2 s2
    by_cases hlt : i < xs.length
    · have hx : xs[i]? = some xs[i] := List.getElem?_eq_getElem hlt
      refine .inr ⟨(ok.1 _ hx).1, Wv (i + 1), fun H' w' => ⟨xs.length - (i + 1), by omega, rfl, w'⟩, fun v H3 hv => ?_⟩
      obtain ⟨G3, e3, s3, rv⟩ := (ok.1 _ hx).2 v H3 hv
      rw [List.drop_eq_getElem_cons hlt] at k2
      have e03 : Ex G G3 := Ex.t e1 (Ex.t e2 e3)
      have s3' : Sx B (O ++ ((Dl, .lst acc) :: O0)) G3 H3 := s3.perm acc_in
      refine hg ((fr.up e03).forget hw) s3' rv fun σ' fr' hwp => ⟨by rw [hwp, wipe_idem], ?_⟩
      refine ht _ fr' s3' ((mt xs[i]).mono (fun b kb G4 H4 e4 s4 => ?_) px0_any k2)
      cases b with
      | false =>
        rw [if_neg Bool.false_ne_true]
        exact ⟨hlt, G4, acc, ys, Ex.t e2 (Ex.t e3 e4), s4.perm acc_in.symm, all2_up (Ex.t e3 e4) r2, by omega, kb⟩
      | true =>
        rw [if_pos rfl]
        refine he _ (fr'.up e4) s4 ((me xs[i]).mono (fun y ky v5 G5 H5 e5 s5 r5 => ?_) px0_any kb)
        have s6 := s5.perm acc_in.symm
        have al := all2_len r2
        refine ⟨acc, s6.head.1, line_lt (by omega), hlt, G5, acc ++ [v5], ys ++ [y], Ex.t e2 (Ex.t e3 (Ex.t e4 e5)), s6.put, all2_app (all2_up (Ex.t e3 (Ex.t e4 e5)) r2) (all2_one r5), by rw [List.length_append, List.length_singleton]; omega, ?_⟩
        refine (W.mapf mt me (xs.drop (i + 1))).mono (fun zs hz => ?_) (fun _ x => x) ky
        show Post (ys ++ [y] ++ zs)
        rw [List.append_assoc]
        exact hz
    · have ei : i = xs.length := by omega
      refine .inl ⟨ok.2 ei, ?_⟩
      rw [ei, List.drop_length] at k2
      have k3 : Post (ys ++ []) := k2
      rw [List.append_nil] at k3
      exact k3 Dl acc G2 H2 (Ex.t e1 e2) s2 r2) (fun _ x => x) q)
/-! ### statements -/
abbrev PW (XP : XPost) (B : Option Addr) (O0 : Ow) (G : Hp) (D' : S → List Sl) (k : L2.St → Hp → Prop) : S → Prop := fun s => ∀ σ' O' G2 H2, Ex G G2 → Fr B G2 (D' s) σ' O' → Sx B (O' ++ O0) G2 H2 → k σ' H2
/-- falls through -/
def StW (XP : XPost) (D : List Sl) (ts : TS) (m : W S) (D' : S → List Sl) : Prop :=
  ∀ ⦃B : Option Addr⦄ ⦃O0 O : Ow⦄ ⦃G H : Hp⦄ ⦃σ : L2.St⦄ ⦃Ds : Ends⦄, Fr B G D σ O → Sx B (O ++ O0) G H → m.run (PW XP B O0 G D' Ds.nx) (PX XP B O0 G) → ts Ds σ H
/-- how a def gives its answer -/
abbrev RM (R : Type) := Option Addr → Ow → Hp → R → VK → Prop
def rmV [Py R] : RM R := fun B O0 G a Q => ∀ v G2 H2, Ex G G2 → Sx B O0 G2 H2 → rp G2 v a → Q v H2
def rmO [Py α] : RM (List α) := fun B O0 G xs Q => ∀ p ws G2 H2, Ex G G2 → Sx B ((p, .lst ws) :: O0) G2 H2 → All2 G2 ws xs → Q (.ref p) H2
def rmU : RM Unit := fun B O0 G _ Q => ∀ G2 H2, Ex G G2 → Sx B O0 G2 H2 → Q .non H2
def PR (M : RM R) (B : Option Addr) (O0 : Ow) (G : Hp) (k : VK) : R → Prop := fun r => ∀ G1, Ex G G1 → M B O0 G1 r k
theorem PR.up {M : RM R} {k : VK} (e : Ex G G1) (r : R) (h : PR M B O0 G k r) : PR M B O0 G1 k r := fun G2 e2 => h G2 (Ex.t e e2)
/-- returns -/
def StR (XP : XPost) (M : RM R) (D : List Sl) (ts : TS) (m : W R) : Prop :=
  ∀ ⦃B : Option Addr⦄ ⦃O0 O : Ow⦄ ⦃G H : Hp⦄ ⦃σ : L2.St⦄ ⦃Ds : Ends⦄, Fr B G D σ O → Sx B (O ++ O0) G H → (∀ σ' H', Ds.rt .non H' → Ds.nx σ' H') → m.run (PR M B O0 G Ds.rt) (PX XP B O0 G) → ts Ds σ H
def PF (M : RM R) (B : Option Addr) (O0 : Ow) (G : Hp) (Dn : S → List Sl) (Dl : L → List Sl) (Ds : Ends) : Fl S R L → Prop := fun o => match o with
  | .nx s => ∀ σ' O' G2 H2, Ex G G2 → Fr B G2 (Dn s) σ' O' → Sx B (O' ++ O0) G2 H2 → Ds.nx σ' H2
  | .rt r => PR M B O0 G Ds.rt r
  | .bk l => ∀ σ' O' G2 H2, Ex G G2 → Fr B G2 (Dl l) σ' O' → Sx B (O' ++ O0) G2 H2 → Ds.bk σ' H2
  | .ct l => ∀ σ' O' G2 H2, Ex G G2 → Fr B G2 (Dl l) σ' O' → Sx B (O' ++ O0) G2 H2 → Ds.ct σ' H2
/-- any way on -/
def StF (XP : XPost) (M : RM R) (D : List Sl) (ts : TS) (m : W (Fl S R L)) (Dn : S → List Sl) (Dl : L → List Sl) : Prop :=
  ∀ ⦃B : Option Addr⦄ ⦃O0 O : Ow⦄ ⦃G H : Hp⦄ ⦃σ : L2.St⦄ ⦃Ds : Ends⦄, Fr B G D σ O → Sx B (O ++ O0) G H → m.run (PF M B O0 G Dn Dl Ds) (PX XP B O0 G) → ts Ds σ H
theorem PW.up {D' : S → List Sl} {k : L2.St → Hp → Prop} (e : Ex G G1) (r : S) (h : PW XP B O0 G D' k r) : PW XP B O0 G1 D' k r := fun σ' O' G2 H2 e2 => h σ' O' G2 H2 (Ex.t e e2)
theorem PF.up {M : RM R} {Dn : S → List Sl} {Dl : L → List Sl} {Ds : Ends} (e : Ex G G1) (o : Fl S R L) (h : PF M B O0 G Dn Dl Ds o) : PF M B O0 G1 Dn Dl Ds o := by
  cases o with
  | nx s => exact fun σ' O' G2 H2 e2 => h σ' O' G2 H2 (Ex.t e e2)
  | rt r => exact PR.up e r h
  | bk l => exact fun σ' O' G2 H2 e2 => h σ' O' G2 H2 (Ex.t e e2)
  | ct l => exact fun σ' O' G2 H2 e2 => h σ' O' G2 H2 (Ex.t e e2)
/-- a block's statements, one after the other -/
theorem StW.seq {m : W S} {n : S → W S2} {E1 : S → List Sl} {D2 : S2 → List Sl} (h : StW XP D ts m E1) (k : ∀ s, StW XP (E1 s) tz (n s) D2) : StW XP D (tSeq ts tz) (m.bind n) D2 := fun B O0 O G H σ Ds fr s q =>
  h (Ds := { Ds with nx := tz Ds }) fr s (m.mono (fun a ka σ' O' G2 H2 e f s2 => k a f s2 ((n a).mono (PW.up (XP := XP) e) (PX.up e) ka)) (fun _ x => x) q)
theorem StR.seq {M : RM R} {m : W S} {n : S → W R} {E1 : S → List Sl} (h : StW XP D ts m E1) (k : ∀ s, StR XP M (E1 s) tz (n s)) : StR XP M D (tSeq ts tz) (m.bind n) := fun B O0 O G H σ Ds fr s top q =>
  h (Ds := { Ds with nx := tz Ds }) fr s (m.mono (fun a ka σ' O' G2 H2 e f s2 => k a f s2 top ((n a).mono (PR.up e) (PX.up e) ka)) (fun _ x => x) q)
theorem StF.seq {M : RM R} {m : W S} {n : S → W (Fl S2 R L)} {E1 : S → List Sl} {Dn : S2 → List Sl} {Dl : L → List Sl} (h : StW XP D ts m E1) (k : ∀ s, StF XP M (E1 s) tz (n s) Dn Dl) : StF XP M D (tSeq ts tz) (m.bind n) Dn Dl := fun B O0 O G H σ Ds fr s q =>
  h (Ds := { Ds with nx := tz Ds }) fr s (m.mono (fun a ka σ' O' G2 H2 e f s2 => k a f s2 ((n a).mono (PF.up e) (PX.up e) ka)) (fun _ x => x) q)
def W.thenF (m : W (Fl S R L)) (n : S → W (Fl S2 R L)) : W (Fl S2 R L) := m.bind fun o => match o with
  | .nx s => n s
  | .rt r => W.pure (.rt r)
  | .bk l => W.pure (.bk l)
  | .ct l => W.pure (.ct l)
theorem StF.seqF {M : RM R} {m : W (Fl S R L)} {n : S → W (Fl S2 R L)} {E1 : S → List Sl} {Dn : S2 → List Sl} {Dl : L → List Sl} (h : StF XP M D ts m E1 Dl) (k : ∀ s, StF XP M (E1 s) tz (n s) Dn Dl) : StF XP M D (tSeq ts tz) (m.thenF n) Dn Dl := fun B O0 O G H σ Ds fr s q =>
  h (Ds := { Ds with nx := tz Ds }) fr s (m.mono (fun a ka => by
    cases a with
    | nx a => exact fun σ' O' G2 H2 e f s2 => k a f s2 ((n a).mono (PF.up e) (PX.up e) ka)
    | rt r => exact ka
    | bk l => exact ka
    | ct l => exact ka) (fun _ x => x) q)
theorem StW.next : StW XP D tNext (W.pure ()) fun _ => D := fun _ _ _ _ _ _ _ fr s q => q _ _ _ _ Ex.r fr s
theorem StW.weak {m : W S} {D1 : S → List Sl} {D2 : S2 → List Sl} {f : S → S2} (h : StW XP D ts m D1) (w : ∀ s, Wk (D1 s) (D2 (f s))) : StW XP D ts (m.bind fun s => W.pure (f s)) D2 := fun _ _ _ _ _ _ _ fr s q => h fr s (m.mono (fun a ka σ' O' G2 H2 e fr2 s2 => by
  obtain ⟨G3, O3, e3, f3, s3⟩ := (w a).go fr2 s2
  exact ka σ' O3 G3 H2 (Ex.t e e3) f3 s3) (fun _ x => x) q)
theorem StW.pre {m : W S} {D' : S → List Sl} (w : Wk D D1) (h : StW XP D1 ts m D') : StW XP D ts m D' := fun _ _ _ _ _ _ _ fr s q => by
  obtain ⟨G3, O3, e3, f3, s3⟩ := w.go fr s
  exact h f3 s3 (m.mono (PW.up (XP := XP) e3) (PX.up e3) q)
theorem StR.pre {M : RM R} {m : W R} (w : Wk D D1) (h : StR XP M D1 ts m) : StR XP M D ts m := fun _ _ _ _ _ _ _ fr s t q => by
  obtain ⟨G3, O3, e3, f3, s3⟩ := w.go fr s
  exact h f3 s3 t (m.mono (PR.up e3) (PX.up e3) q)
theorem StF.pre {M : RM R} {m : W (Fl S R L)} {Dn : S → List Sl} {Dl : L → List Sl} (w : Wk D D1) (h : StF XP M D1 ts m Dn Dl) : StF XP M D ts m Dn Dl := fun _ _ _ _ _ _ _ fr s q => by
  obtain ⟨G3, O3, e3, f3, s3⟩ := w.go fr s
  exact h f3 s3 (m.mono (PF.up e3) (PX.up e3) q)
theorem StF.ofW {M : RM R} {m : W S} {Dn : S → List Sl} {Dl : L → List Sl} (h : StW XP D ts m Dn) : StF XP M D ts (m.bind fun s => W.pure (.nx s)) Dn Dl := fun _ _ _ _ _ _ _ fr s q => h fr s q
theorem StF.ret {M : RM R} {m : W R} {Dn : S → List Sl} {Dl : L → List Sl} (h : ∀ {B O0 O G H σ} {Ds : Ends}, Fr B G D σ O → Sx B (O ++ O0) G H → m.run (PR M B O0 G Ds.rt) (PX XP B O0 G) → ts Ds σ H) : StF XP M D ts (m.bind fun r => W.pure (.rt r)) Dn Dl := fun _ _ _ _ _ _ _ fr s q => h fr s q
theorem StF.bk {M : RM R} {l : L} {Dn : S → List Sl} {Dl : L → List Sl} (w : Wk D (Dl l)) : StF XP M D tBreak (W.pure (.bk l)) Dn Dl := fun _ _ _ _ _ _ _ fr s q => by
  obtain ⟨G3, O3, e3, f3, s3⟩ := w.go fr s
  exact q _ O3 G3 _ e3 f3 s3
theorem StF.ct {M : RM R} {l : L} {Dn : S → List Sl} {Dl : L → List Sl} (w : Wk D (Dl l)) : StF XP M D tCont (W.pure (.ct l)) Dn Dl := fun _ _ _ _ _ _ _ fr s q => by
  obtain ⟨G3, O3, e3, f3, s3⟩ := w.go fr s
  exact q _ O3 G3 _ e3 f3 s3
/-- returns, in a block or a loop -/
def Rt (XP : XPost) (M : RM R) (D : List Sl) (ts : TS) (m : W R) : Prop :=
  ∀ ⦃B : Option Addr⦄ ⦃O0 O : Ow⦄ ⦃G H : Hp⦄ ⦃σ : L2.St⦄ ⦃Ds : Ends⦄, Fr B G D σ O → Sx B (O ++ O0) G H → m.run (PR M B O0 G Ds.rt) (PX XP B O0 G) → ts Ds σ H
theorem StR.rt {M : RM R} {m : W R} (h : Rt XP M D ts m) : StR XP M D ts m := fun _ _ _ _ _ _ _ fr s _ q => h fr s q
theorem Rt.val {m : W α} (h : EW XP D te m) : Rt XP rmV D (tRet te) m := fun B O0 O G H σ Ds fr s q => h fr s (m.mono (fun a k v G2 H2 e s2 r => k G2 e v G2 H2 Ex.r (s2.sub (List.sublist_append_right _ _)) r) (fun _ x => x) q)
theorem Rt.new {m : W (List α)} (h : EWN XP D te m) : Rt XP rmO D (tRet te) m := fun B O0 O G H σ Ds fr s q => h fr s (m.mono (fun a k p ws G2 H2 e s2 r => k G2 e p ws G2 H2 Ex.r (s2.sub (List.Sublist.cons₂ _ (List.sublist_append_right _ _))) r) (fun _ x => x) q)
theorem Rt.own {i : Nat} {xs : List α} (h : D[i]? = some (own xs)) : Rt XP rmO D (tRet (tVar i)) (W.pure xs) := fun B O0 O G H σ Ds fr s q => by
  obtain ⟨O1, o, O2, v, e1, e2, ⟨p, ws, e3, e4, ra⟩, _⟩ := fr.focus h
  subst e4
  rw [e1] at s
  refine ⟨.ref p, by rw [e2, e3], q G Ex.r p ws G H Ex.r ((s.perm mid_head).sub ?_) ra⟩
  exact List.Sublist.cons₂ _ (List.sublist_append_right _ _)
theorem Rt.non : Rt XP rmU D tRetN (W.pure ()) := fun B O0 O G H σ Ds fr s q => q G Ex.r G H Ex.r (s.sub (List.sublist_append_right _ _))
theorem StR.off {m : W S} {D' : S → List Sl} (h : StW XP D ts m D') : StR XP rmU D ts (m.bind fun _ => W.pure ()) := fun B O0 O G H σ Ds fr s top q =>
  h fr s (m.mono (fun a k σ' O' G2 H2 e f s2 => top σ' H2 (k G2 e G2 H2 Ex.r (s2.sub (List.sublist_append_right _ _)))) (fun _ x => x) q)
end
end Dk

set_option Elab.async false
set_option linter.all false
set_option maxRecDepth 100000
set_option maxHeartbeats 1000000
namespace Dk
open PySem PySem.Spec PyProof.Rows L2
open Evl (Ex)
open Py (rp)
open PyD (pic)
section
variable {α β γ δ A ι κ S S' S2 R L : Type} [Py α] [Py β] [Py γ] [Py δ] [Py ι] {XP : XPost} {D D1 D2 : List Sl} {te ta tb tc td : TE} {tt tu : TT} {ts tz tw : TS} {B : Option Addr} {O O0 : Ow} {G G1 G2 H : Hp} {σ : L2.St} {K : PySem.W.Frag} {g : TG} {wi : TI}
/-! ### assignments -/
theorem sub_R : O0.Sublist (O ++ O0) := List.sublist_append_right _ _
/-- x = e, e still -/
theorem StW.set {i : Nat} {s : Sl} {m : W α} (h : EW XP D te m) (hi : D[i]? = some s) : StW XP D (tAsg te (gName i)) m fun a => D.set i (stv a) := fun _ _ _ _ _ _ _ fr sx q => h fr sx (m.mono (fun a k v G2 H2 e s2 r => by
  obtain ⟨O', f, sb⟩ := (fr.up e).put hi r
  exact k _ O' G2 H2 e f (sub_app s2 sb)) (fun _ x => x) q)
theorem mid_new {x : Addr × HO} {O1 O2 : Ow} : (x :: (O1 ++ O2 ++ O0)).Perm (O1 ++ [x] ++ O2 ++ O0) := mid_head.symm
/-- x = e, e a new list of one's own -/
theorem StW.setN {i : Nat} {s : Sl} {m : W (List α)} (h : EWN XP D te m) (hi : D[i]? = some s) : StW XP D (tAsg te (gName i)) m fun a => D.set i (own a) := fun B O0 O G H σ Ds fr sx q => h fr sx (m.mono (fun a k p ws G2 H2 e s2 r => by
  obtain ⟨O1, o, O2, v, e1, e2, e3, z⟩ := (fr.up e).focus hi
  have f := z G2 (own a) (some (.ref p)) [(p, .lst ws)] Ex.r ⟨p, ws, rfl, rfl, r⟩
  refine k _ _ G2 H2 e f ((s2.sub ?_).perm mid_new)
  rw [e1]
  refine List.Sublist.cons₂ _ ?_
  have := @mid_out O0 o O1 O2
  simpa only [List.append_nil] using this) (fun _ x => x) q)
/-- x, y = e -/
theorem StW.tgt {ws : List Nat} {f : α → List Sl} {m : W α} (h : EW XP D te m) (hg : TgW g ws D f) : StW XP D (tAsg te g) m f := fun _ _ _ _ _ _ _ fr sx q => h fr sx (m.mono (fun a k v G2 H2 e s2 r => hg (fr.up e) s2 r fun σ' f' _ => k σ' _ G2 H2 e f' s2) (fun _ x => x) q)
/-- x, y = e, f -/
theorem StW.par {i j : Nat} {s t : Sl} {m : W α} {n : W β} (h : EW XP D ta m) (h' : EW XP D tb n) (hi : D[i]? = some s) (hj : ∀ a : α, (D.set i (stv a))[j]? = some t) : StW XP D (tPar i j (tCons ta (tCons tb tNil))) (m.bind fun a => n.bind fun b => W.pure (a, b)) fun p => (D.set i (stv p.1)).set j (stv p.2) := fun B O0 O G H σ Ds fr sx q =>
  h fr sx (m.mono (fun a k v G2 H2 e s2 r => h' (fr.up e) s2 (n.mono (fun b k2 w G3 H3 e3 s3 r3 => by
    obtain ⟨O1, f1, sb1⟩ := (fr.up (Ex.t e e3)).put hi (Py.up e3 r)
    obtain ⟨O2, f2, sb2⟩ := f1.put (hj a) r3
    exact ⟨v, w, rfl, k2 _ O2 G3 H3 (Ex.t e e3) f2 (sub_app s3 (sb2.trans sb1))⟩) (PX.up e) k)) (fun _ x => x) q)
/-- x, y = e, [..] -/
theorem StW.parN {i j : Nat} {s t : Sl} {m : W α} {n : W (List β)} (h : EW XP D ta m) (h' : EWN XP D tb n) (hi : D[i]? = some s) (hj : ∀ a : α, (D.set i (stv a))[j]? = some t) : StW XP D (tPar i j (tCons ta (tCons tb tNil))) (m.bind fun a => n.bind fun b => W.pure (a, b)) fun p => (D.set i (stv p.1)).set j (own p.2) := fun B O0 O G H σ Ds fr sx q =>
  h fr sx (m.mono (fun a k v G2 H2 e s2 r => h' (fr.up e) s2 (n.mono (fun b k2 p ws G3 H3 e3 s3 r3 => by
    obtain ⟨O1, f1, sb1⟩ := (fr.up (Ex.t e e3)).put hi (Py.up e3 r)
    obtain ⟨P1, o, P2, u, e1, e2, e4, z⟩ := f1.focus (hj a)
    have f := z G3 (own b) (some (.ref p)) [(p, .lst ws)] Ex.r ⟨p, ws, rfl, rfl, r3⟩
    refine ⟨v, .ref p, rfl, k2 _ _ G3 H3 (Ex.t e e3) f ((s3.sub ?_).perm mid_new)⟩
    refine List.Sublist.cons₂ _ (List.Sublist.trans ?_ (sb1.append (.refl _)))
    rw [e1]
    have := @mid_out O0 o P1 P2
    simpa only [List.append_nil] using this) (PX.up e) k)) (fun _ x => x) q)
/-- x, y = [..], e -/
theorem StW.parN1 {i j : Nat} {s t : Sl} {m : W (List α)} {n : W β} (h : EWN XP D ta m) (h' : EW XP D tb n) (hX : XP = XP0) (hi : D[i]? = some s) (hj : ∀ a : List α, (D.set i (own a))[j]? = some t) : StW XP D (tPar i j (tCons ta (tCons tb tNil))) (m.bind fun a => n.bind fun b => W.pure (a, b)) fun p => (D.set i (own p.1)).set j (stv p.2) := fun B O0 O G H σ Ds fr sx q => by
  subst hX
  refine h fr sx (m.mono (fun a k p ws G2 H2 e s2 r => h' (fr.up e) (s2.perm acc_in) (n.mono (fun b k2 w G3 H3 e3 s3 r3 => ?_) px0_any k)) (fun _ x => x) q)
  obtain ⟨O1, o, O2, v, e1, e2, e4, z⟩ := (fr.up (Ex.t e e3)).focus hi
  have f := z G3 (own a) (some (.ref p)) [(p, .lst ws)] Ex.r ⟨p, ws, rfl, rfl, all2_up e3 r⟩
  obtain ⟨O', f2, sb2⟩ := f.put (hj a) r3
  refine ⟨.ref p, w, rfl, k2 _ O' G3 H3 (Ex.t e e3) f2 (sub_app ?_ sb2)⟩
  refine ((s3.perm acc_in.symm).sub ?_).perm mid_new
  rw [e1]
  refine List.Sublist.cons₂ _ ?_
  have := @mid_out O0 o O1 O2
  simpa only [List.append_nil] using this
/-- x, y = [..], [..] -/
theorem StW.parNN {i j : Nat} {s t : Sl} {m : W (List α)} {n : W (List β)} (h : EWN XP D ta m) (h' : EWN XP D tb n) (hX : XP = XP0) (hi : D[i]? = some s) (hj : ∀ a : List α, (D.set i (own a))[j]? = some t) : StW XP D (tPar i j (tCons ta (tCons tb tNil))) (m.bind fun a => n.bind fun b => W.pure (a, b)) fun p => (D.set i (own p.1)).set j (own p.2) := fun B O0 O G H σ Ds fr sx q => by
  subst hX
  refine h fr sx (m.mono (fun a k p ws G2 H2 e s2 r => h' (fr.up e) (s2.perm acc_in) (n.mono (fun b k2 p2 ws2 G3 H3 e3 s3 r3 => ?_) px0_any k)) (fun _ x => x) q)
  obtain ⟨O1, o, O2, v, e1, e2, e4, z⟩ := (fr.up (Ex.t e e3)).focus hi
  have f := z G3 (own a) (some (.ref p)) [(p, .lst ws)] Ex.r ⟨p, ws, rfl, rfl, all2_up e3 r⟩
  obtain ⟨P1, o', P2, u, g1, g2, g4, z2⟩ := f.focus (hj a)
  have f2 := z2 G3 (own b) (some (.ref p2)) [(p2, .lst ws2)] Ex.r ⟨p2, ws2, rfl, rfl, r3⟩
  refine ⟨.ref p, .ref p2, rfl, k2 _ _ G3 H3 (Ex.t e e3) f2 ((Sx.sub (O := (p2, .lst ws2) :: (O1 ++ [(p, .lst ws)] ++ O2 ++ O0)) ?_ ?_).perm mid_new)⟩
  · refine (s3.perm (List.Perm.cons _ acc_in.symm)).sub (List.Sublist.cons₂ _ ?_) |>.perm (List.Perm.cons _ mid_new)
    rw [e1]
    refine List.Sublist.cons₂ _ ?_
    have := @mid_out O0 o O1 O2
    simpa only [List.append_nil] using this
  · refine List.Sublist.cons₂ _ ?_
    rw [g1]
    have := @mid_out O0 o' P1 P2
    simpa only [List.append_nil] using this
/-- x += e, ints -/
theorem StW.aug {i : Nat} {a : Int} {f : Int → Int → Int} {m : W Int} (hi : D[i]? = some (stv a)) (h : EW XP D te m) : StW XP D (tAug i te (ipI f)) (m.bind fun b => W.pure (f a b)) fun b => D.set i (stv b) := fun B O0 O G H σ Ds fr sx q => by
  obtain ⟨O1, o, O2, v, e1, e2, ⟨e3, u, e4, ru⟩, z⟩ := fr.focus hi
  refine ⟨u, by rw [e2, e4], h fr sx (m.mono (fun b k w G2 H2 e s2 r => ⟨a, b, ru, r, ?_⟩) (fun _ x => x) q)⟩
  obtain ⟨O', f, sb⟩ := (fr.up e).put hi (show rp G2 (.int (f a b)) (f a b) from rfl)
  exact k _ O' G2 H2 e f (sub_app s2 sb)
/-! ### if -/
theorem StW.ite {mc : W Bool} {m n : W S} {D' : S → List Sl} (hc : EWT XP D tt mc) (h1 : StW XP D ts m D') (h2 : StW XP D tw n D') : StW XP D (tIfS tt ts tw) (mc.bind fun b => W.ite b m n) D' := fun _ _ _ _ _ _ _ fr s q => hc fr s (mc.mono (fun b k G2 H2 e s2 => by
  cases b with
  | true => exact h1 (fr.up e) s2 (m.mono (PW.up (XP := XP) e) (PX.up e) k)
  | false => exact h2 (fr.up e) s2 (n.mono (PW.up (XP := XP) e) (PX.up e) k)) (fun _ x => x) q)
theorem StR.ite {M : RM R} {mc : W Bool} {m n : W R} (hc : EWT XP D tt mc) (h1 : StR XP M D ts m) (h2 : StR XP M D tw n) : StR XP M D (tIfS tt ts tw) (mc.bind fun b => W.ite b m n) := fun _ _ _ _ _ _ _ fr s t q => hc fr s (mc.mono (fun b k G2 H2 e s2 => by
  cases b with
  | true => exact h1 (fr.up e) s2 t (m.mono (PR.up e) (PX.up e) k)
  | false => exact h2 (fr.up e) s2 t (n.mono (PR.up e) (PX.up e) k)) (fun _ x => x) q)
theorem StF.ite {M : RM R} {mc : W Bool} {m n : W (Fl S R L)} {Dn : S → List Sl} {Dl : L → List Sl} (hc : EWT XP D tt mc) (h1 : StF XP M D ts m Dn Dl) (h2 : StF XP M D tw n Dn Dl) : StF XP M D (tIfS tt ts tw) (mc.bind fun b => W.ite b m n) Dn Dl := fun _ _ _ _ _ _ _ fr s q => hc fr s (mc.mono (fun b k G2 H2 e s2 => by
  cases b with
  | true => exact h1 (fr.up e) s2 (m.mono (PF.up e) (PX.up e) k)
  | false => exact h2 (fr.up e) s2 (n.mono (PF.up e) (PX.up e) k)) (fun _ x => x) q)
/-- if c: (returns); the rest -/
theorem StR.cut {M : RM R} {mc : W Bool} {m n : W R} (hc : EWT XP D tt mc) (h1 : Rt XP M D ts m) (h2 : StR XP M D tz n) : StR XP M D (tSeq (tIfS tt ts tNext) tz) (mc.bind fun b => W.ite b m n) := fun B O0 O G H σ Ds fr s t q => hc fr s (mc.mono (fun b k G2 H2 e s2 => by
  cases b with
  | true => exact h1 (Ds := { Ds with nx := tz Ds }) (fr.up e) s2 (m.mono (PR.up e) (PX.up e) k)
  | false => exact h2 (fr.up e) s2 t (n.mono (PR.up e) (PX.up e) k)) (fun _ x => x) q)
theorem Rt.cut {M : RM R} {mc : W Bool} {m n : W R} (hc : EWT XP D tt mc) (h1 : Rt XP M D ts m) (h2 : Rt XP M D tz n) : Rt XP M D (tSeq (tIfS tt ts tNext) tz) (mc.bind fun b => W.ite b m n) := fun B O0 O G H σ Ds fr s q => hc fr s (mc.mono (fun b k G2 H2 e s2 => by
  cases b with
  | true => exact h1 (Ds := { Ds with nx := tz Ds }) (fr.up e) s2 (m.mono (PR.up e) (PX.up e) k)
  | false => exact h2 (fr.up e) s2 (n.mono (PR.up e) (PX.up e) k)) (fun _ x => x) q)
theorem Rt.seq {M : RM R} {m : W S} {n : S → W R} {E1 : S → List Sl} (h : StW XP D ts m E1) (k : ∀ s, Rt XP M (E1 s) tz (n s)) : Rt XP M D (tSeq ts tz) (m.bind n) := fun B O0 O G H σ Ds fr s q =>
  h (Ds := { Ds with nx := tz Ds }) fr s (m.mono (fun a ka σ' O' G2 H2 e f s2 => k a f s2 ((n a).mono (PR.up e) (PX.up e) ka)) (fun _ x => x) q)
theorem Rt.ite {M : RM R} {mc : W Bool} {m n : W R} (hc : EWT XP D tt mc) (h1 : Rt XP M D ts m) (h2 : Rt XP M D tw n) : Rt XP M D (tIfS tt ts tw) (mc.bind fun b => W.ite b m n) := fun _ _ _ _ _ _ _ fr s q => hc fr s (mc.mono (fun b k G2 H2 e s2 => by
  cases b with
  | true => exact h1 (fr.up e) s2 (m.mono (PR.up e) (PX.up e) k)
  | false => exact h2 (fr.up e) s2 (n.mono (PR.up e) (PX.up e) k)) (fun _ x => x) q)
theorem Rt.pre {M : RM R} {m : W R} (w : Wk D D1) (h : Rt XP M D1 ts m) : Rt XP M D ts m := fun _ _ _ _ _ _ _ fr s q => by
  obtain ⟨G3, O3, e3, f3, s3⟩ := w.go fr s
  exact h f3 s3 (m.mono (PR.up e3) (PX.up e3) q)
theorem StF.rt {M : RM R} {m : W R} {Dn : S → List Sl} {Dl : L → List Sl} (h : Rt XP M D ts m) : StF XP M D ts (m.bind fun r => W.pure (.rt r)) Dn Dl := fun _ _ _ _ _ _ _ fr s q => h fr s q
/-- if c: (leaves the turn); the rest -/
theorem StF.cut {M : RM R} {mc : W Bool} {m : W (Fl Empty R L)} {n : W (Fl S R L)} {Dn : S → List Sl} {Dl : L → List Sl} (hc : EWT XP D tt mc) (h1 : StF XP M D ts m (fun x => nomatch x) Dl) (h2 : StF XP M D tz n Dn Dl) : StF XP M D (tSeq (tIfS tt ts tNext) tz) (mc.bind fun b => W.ite b (m.thenF fun x => nomatch x) n) Dn Dl := fun B O0 O G H σ Ds fr s q => hc fr s (mc.mono (fun b k G2 H2 e s2 => by
  cases b with
  | true => exact h1 (Ds := { Ds with nx := tz Ds }) (fr.up e) s2 (m.mono (fun o ko => by
      cases o with
      | nx s => exact nomatch s
      | rt r => exact PR.up e r ko
      | bk l => exact fun σ' O' G2 H2 e2 => ko σ' O' G2 H2 (Ex.t e e2)
      | ct l => exact fun σ' O' G2 H2 e2 => ko σ' O' G2 H2 (Ex.t e e2)) (PX.up e) k)
  | false => exact h2 (fr.up e) s2 (n.mono (PF.up e) (PX.up e) k)) (fun _ x => x) q)
end
end Dk

set_option Elab.async false
set_option linter.all false
set_option maxRecDepth 100000
set_option maxHeartbeats 1000000
namespace Dk
open PySem PySem.Spec PyProof.Rows L2
open Evl (Ex)
open Py (rp)
open PyD (pic)
section
variable {α β γ δ A ι κ S S' S2 R L : Type} [Py α] [Py β] [Py γ] [Py δ] [Py ι] {XP : XPost} {D D1 D2 : List Sl} {te ta tb tc td : TE} {tt tu : TT} {ts tz tw : TS} {B : Option Addr} {O O0 : Ow} {G G1 G2 H : Hp} {σ : L2.St} {K : PySem.W.Frag} {g : TG} {wi : TI}
/-! ### loops -/
/-- for, each turn falls through. Dh: the head's frame -/
theorem StW.forN {ws : List Nat} {m : W (List ι)} {Dh : S → List Sl} {f : S → ι → List Sl} {b : ι → S → W S} {s0 : S} (hi : EWI XP D wi m) (w0 : Wk D (Dh s0)) (hg : ∀ s, TgW g ws (Dh s) (f s)) (hb : ∀ s x, StW XP (f s x) ts (b x s) Dh) :
    StW XP D (tFor wi g ts) (m.bind fun xs => W.fold b xs s0) Dh := fun B O0 O G H σ Ds fr sx q =>
  hi fr sx (m.mono (fun xs k J G1 H1 e1 s1 hJ => by
    let Wv : Nat → L2.St → Hp → Prop := fun i σ H => i ≤ xs.length ∧ ∃ s G2 O2, Ex G1 G2 ∧ Fr B G2 (Dh s) σ O2 ∧ Sx B (O2 ++ O0) G2 H ∧ (W.fold b (xs.drop i) s).run (PW XP B O0 G Dh Ds.nx) (PX XP B O0 G)
    obtain ⟨G0, O3, e3, f3, s3⟩ := w0.go (fr.up e1) s1
    refine ⟨fun i m σ H => m = xs.length - i ∧ Wv i σ H, ⟨xs.length, by simp, Nat.zero_le _, s0, G0, O3, e3, f3, s3, k⟩, ?_⟩
    rintro i m σ2 H2 ⟨rfl, hi, s, G2, O2, e2, f2, s2, k2⟩
    have ok := hJ i _ G2 H2 e2 s2
    by_cases hlt : i < xs.length
    · have hx : xs[i]? = some xs[i] := List.getElem?_eq_getElem hlt
      refine .inr ⟨(ok.1 _ hx).1, Wv (i + 1), fun σ' H' w' => ⟨xs.length - (i + 1), by omega, rfl, w'⟩, fun v H4 hv => ?_⟩
      obtain ⟨G4, e4, s4, rv⟩ := (ok.1 _ hx).2 v H4 hv
      rw [List.drop_eq_getElem_cons hlt] at k2
      refine hg s (f2.up e4) s4 rv fun σ' f' _ => hb s _ f' s4 ((b xs[i] s).mono (fun s' ks σ5 O5 G5 H5 e5 f5 s5 => ⟨hlt, s', G5, O5, Ex.t e2 (Ex.t e4 e5), f5, s5, ks⟩) (PX.up (Ex.t e1 (Ex.t e2 e4))) k2)
    · have ei : i = xs.length := by omega
      rw [ei, List.drop_length] at k2
      exact .inl ⟨ok.2 ei, k2 σ2 O2 G2 H2 (Ex.t e1 e2) f2 s2⟩) (fun _ x => x) q)
def POut (M : RM R) (B : Option Addr) (O0 : Ow) (G : Hp) (Dh : S → List Sl) (Ds : Ends) : Out S R → Prop := fun o => match o with
  | .fin s => ∀ σ' O' G2 H2, Ex G G2 → Fr B G2 (Dh s) σ' O' → Sx B (O' ++ O0) G2 H2 → Ds.nx σ' H2
  | .ret r => PR M B O0 G Ds.rt r
/-- a loop: it ends, or the def returns -/
def StL (XP : XPost) (M : RM R) (D : List Sl) (ts : TS) (m : W (Out S R)) (Dh : S → List Sl) : Prop :=
  ∀ ⦃B : Option Addr⦄ ⦃O0 O : Ow⦄ ⦃G H : Hp⦄ ⦃σ : L2.St⦄ ⦃Ds : Ends⦄, Fr B G D σ O → Sx B (O ++ O0) G H → m.run (POut M B O0 G Dh Ds) (PX XP B O0 G) → ts Ds σ H
theorem POut.up {M : RM R} {Dh : S → List Sl} {Ds : Ends} (e : Ex G G1) (o : Out S R) (h : POut M B O0 G Dh Ds o) : POut M B O0 G1 Dh Ds o := by
  cases o with
  | fin s => exact fun σ' O' G2 H2 e2 => h σ' O' G2 H2 (Ex.t e e2)
  | ret r => exact PR.up e r h
theorem StL.forF {M : RM R} {ws : List Nat} {m : W (List ι)} {Dh : S → List Sl} {f : S → ι → List Sl} {b : ι → S → W (Fl S R S)} {s0 : S} (hi : EWI XP D wi m) (w0 : Wk D (Dh s0)) (hg : ∀ s, TgW g ws (Dh s) (f s)) (hb : ∀ s x, StF XP M (f s x) ts (b x s) Dh Dh) :
    StL XP M D (tFor wi g ts) (m.bind fun xs => W.loop b xs s0) Dh := fun B O0 O G H σ Ds fr sx q =>
  hi fr sx (m.mono (fun xs k J G1 H1 e1 s1 hJ => by
    let Wv : Nat → L2.St → Hp → Prop := fun i σ H => i ≤ xs.length ∧ ∃ s G2 O2, Ex G1 G2 ∧ Fr B G2 (Dh s) σ O2 ∧ Sx B (O2 ++ O0) G2 H ∧ (W.loop b (xs.drop i) s).run (POut M B O0 G Dh Ds) (PX XP B O0 G)
    obtain ⟨G0, O3, e3, f3, s3⟩ := w0.go (fr.up e1) s1
    refine ⟨fun i m σ H => m = xs.length - i ∧ Wv i σ H, ⟨xs.length, by simp, Nat.zero_le _, s0, G0, O3, e3, f3, s3, k⟩, ?_⟩
    rintro i m σ2 H2 ⟨rfl, hi, s, G2, O2, e2, f2, s2, k2⟩
    have ok := hJ i _ G2 H2 e2 s2
    by_cases hlt : i < xs.length
    · have hx : xs[i]? = some xs[i] := List.getElem?_eq_getElem hlt
      refine .inr ⟨(ok.1 _ hx).1, Wv (i + 1), fun σ' H' w' => ⟨xs.length - (i + 1), by omega, rfl, w'⟩, fun v H4 hv => ?_⟩
      obtain ⟨G4, e4, s4, rv⟩ := (ok.1 _ hx).2 v H4 hv
      rw [List.drop_eq_getElem_cons hlt] at k2
      have e04 := Ex.t e1 (Ex.t e2 e4)
      refine hg s (f2.up e4) s4 rv fun σ' f' _ => hb s _ f' s4 ((b xs[i] s).mono (fun o ko => ?_) (PX.up e04) k2)
      cases o with
      | nx s' => exact fun σ5 O5 G5 H5 e5 f5 s5 => ⟨hlt, s', G5, O5, Ex.t e2 (Ex.t e4 e5), f5, s5, ko⟩
      | ct s' => exact fun σ5 O5 G5 H5 e5 f5 s5 => ⟨hlt, s', G5, O5, Ex.t e2 (Ex.t e4 e5), f5, s5, ko⟩
      | bk s' => exact fun σ5 O5 G5 H5 e5 f5 s5 => ko σ5 O5 G5 H5 (Ex.t e04 e5) f5 s5
      | rt r => exact PR.up e04 r ko
    · have ei : i = xs.length := by omega
      rw [ei, List.drop_length] at k2
      exact .inl ⟨ok.2 ei, k2 σ2 O2 G2 H2 (Ex.t e1 e2) f2 s2⟩) (fun _ x => x) q)
/-- while, each turn falls through -/
theorem StW.whileN {Dh : S → List Sl} {c : S → W Bool} {b : S → W S} {s0 : S} (w0 : Wk D (Dh s0)) (hc : ∀ s, EWT XP (Dh s) tt (c s)) (hb : ∀ s, StW XP (Dh s) ts (b s) Dh) :
    StW XP D (tWhile tt ts) (W.wfold c b s0) Dh := fun B O0 O G H σ Ds fr sx ⟨n, q⟩ => by
  obtain ⟨G0, O3, e3, f3, s3⟩ := w0.go fr sx
  let Wv : Nat → L2.St → Hp → Prop := fun n σ H => ∃ s G2 O2, Ex G G2 ∧ Fr B G2 (Dh s) σ O2 ∧ Sx B (O2 ++ O0) G2 H ∧ (W.wfoldN c b n s).run (PW XP B O0 G Dh Ds.nx) (PX XP B O0 G)
  refine ⟨Wv, ⟨n, s0, G0, O3, e3, f3, s3, q⟩, ?_⟩
  rintro n σ2 H2 ⟨s, G2, O2, e2, f2, s2, k2⟩
  cases n with
  | zero => exact k2.elim
  | succ n =>
    refine hc s f2 s2 ((c s).mono (fun x kx G4 H4 e4 s4 => ?_) (PX.up e2) k2)
    cases x with
    | false =>
      rw [if_neg Bool.false_ne_true]
      exact kx σ2 O2 G4 H4 (Ex.t e2 e4) (f2.up e4) s4
    | true =>
      rw [if_pos rfl]
      refine ⟨Wv n, fun σ' H' w' => ⟨n, Nat.lt_succ_self n, w'⟩, hb s (f2.up e4) s4 ((b s).mono (fun s' ks σ5 O5 G5 H5 e5 f5 s5 => ⟨s', G5, O5, Ex.t e2 (Ex.t e4 e5), f5, s5, ks⟩) (PX.up (Ex.t e2 e4)) kx)⟩
theorem StL.whileF {M : RM R} {Dh : S → List Sl} {c : S → W Bool} {b : S → W (Fl S R S)} {s0 : S} (w0 : Wk D (Dh s0)) (hc : ∀ s, EWT XP (Dh s) tt (c s)) (hb : ∀ s, StF XP M (Dh s) ts (b s) Dh Dh) :
    StL XP M D (tWhile tt ts) (W.wloop c b s0) Dh := fun B O0 O G H σ Ds fr sx ⟨n, q⟩ => by
  obtain ⟨G0, O3, e3, f3, s3⟩ := w0.go fr sx
  let Wv : Nat → L2.St → Hp → Prop := fun n σ H => ∃ s G2 O2, Ex G G2 ∧ Fr B G2 (Dh s) σ O2 ∧ Sx B (O2 ++ O0) G2 H ∧ (W.wloopN c b n s).run (POut M B O0 G Dh Ds) (PX XP B O0 G)
  refine ⟨Wv, ⟨n, s0, G0, O3, e3, f3, s3, q⟩, ?_⟩
  rintro n σ2 H2 ⟨s, G2, O2, e2, f2, s2, k2⟩
  cases n with
  | zero => exact k2.elim
  | succ n =>
    refine hc s f2 s2 ((c s).mono (fun x kx G4 H4 e4 s4 => ?_) (PX.up e2) k2)
    have e24 := Ex.t e2 e4
    cases x with
    | false =>
      rw [if_neg Bool.false_ne_true]
      exact kx σ2 O2 G4 H4 e24 (f2.up e4) s4
    | true =>
      rw [if_pos rfl]
      refine ⟨Wv n, fun σ' H' w' => ⟨n, Nat.lt_succ_self n, w'⟩, hb s (f2.up e4) s4 ((b s).mono (fun o ko => ?_) (PX.up e24) kx)⟩
      cases o with
      | nx s' => exact fun σ5 O5 G5 H5 e5 f5 s5 => ⟨s', G5, O5, Ex.t e24 e5, f5, s5, ko⟩
      | ct s' => exact fun σ5 O5 G5 H5 e5 f5 s5 => ⟨s', G5, O5, Ex.t e24 e5, f5, s5, ko⟩
      | bk s' => exact fun σ5 O5 G5 H5 e5 f5 s5 => ko σ5 O5 G5 H5 (Ex.t e24 e5) f5 s5
      | rt r => exact PR.up e24 r ko
def W.thenL (m : W (Out S R)) (n : S → W R) : W R := m.bind fun o => match o with
  | .fin s => n s
  | .ret r => W.pure r
theorem StR.loop {M : RM R} {m : W (Out S R)} {n : S → W R} {Dh : S → List Sl} (h : StL XP M D ts m Dh) (k : ∀ s, StR XP M (Dh s) tz (n s)) : StR XP M D (tSeq ts tz) (m.thenL n) := fun B O0 O G H σ Ds fr s top q =>
  h (Ds := { Ds with nx := tz Ds }) fr s (m.mono (fun a ka => by
    cases a with
    | fin a => exact fun σ' O' G2 H2 e f s2 => k a f s2 top ((n a).mono (PR.up e) (PX.up e) ka)
    | ret r => exact ka) (fun _ x => x) q)
/-- a loop that never returns, left by break or continue alone -/
def W.thenW (m : W (Out S Empty)) : W S := m.bind fun o => match o with
  | .fin s => W.pure s
  | .ret r => nomatch r
def rmE : RM Empty := fun _ _ _ r _ => nomatch r
theorem StW.loop {m : W (Out S Empty)} {Dh : S → List Sl} (h : StL XP rmE D ts m Dh) : StW XP D ts m.thenW Dh := fun B O0 O G H σ Ds fr s q => h fr s (m.mono (fun a ka => by
  cases a with
  | fin a => exact ka
  | ret r => exact nomatch r) (fun _ x => x) q)
def W.outF (o : Out S R) : W (Fl S R L) := match o with
  | .fin s => W.pure (.nx s)
  | .ret r => W.pure (.rt r)
theorem StF.loop {M : RM R} {m : W (Out S R)} {Dh : S → List Sl} {Dl : L → List Sl} (h : StL XP M D ts m Dh) : StF XP M D ts (m.bind W.outF) Dh Dl := fun B O0 O G H σ Ds fr s q => h fr s (m.mono (fun a ka => by
  cases a with
  | fin a => exact ka
  | ret r => exact ka) (fun _ x => x) q)
theorem StF.weak {M : RM R} {m : W (Fl S R L)} {Dn : S → List Sl} {Dn' : S2 → List Sl} {Dl : L → List Sl} {f : S → S2} (h : StF XP M D ts m Dn Dl) (w : ∀ s, Wk (Dn s) (Dn' (f s))) : StF XP M D ts (m.thenF fun s => W.pure (.nx (f s))) Dn' Dl := fun B O0 O G H σ Ds fr s q => h fr s (m.mono (fun a ka => by
  cases a with
  | nx a => exact fun σ' O' G2 H2 e fr2 s2 => let ⟨G3, O3, e3, f3, s3⟩ := (w a).go fr2 s2; ka σ' O3 G3 H2 (Ex.t e e3) f3 s3
  | rt r => exact ka
  | bk l => exact ka
  | ct l => exact ka) (fun _ x => x) q)
/-! ### one's own list changes -/
theorem mid_swap {x : Addr × HO} {O1 O2 : Ow} : (O1 ++ [x] ++ O2 ++ O0).Perm (x :: (O1 ++ O2 ++ O0)) := mid_head
/-- own list at i: its place, and what follows a change -/
theorem Fr.ownAt {i : Nat} {xs : List α} (fr : Fr B G D σ O) (hi : D[i]? = some (own xs)) : ∃ p ws O1 O2, O = O1 ++ [(p, .lst ws)] ++ O2 ∧ σ[i]? = some (some (.ref p)) ∧ All2 G ws xs ∧
    ∀ G' ws' (ys : List α), Ex G G' → All2 G' ws' ys → Fr B G' (D.set i (own ys)) σ (O1 ++ [(p, .lst ws')] ++ O2) := by
  obtain ⟨O1, o, O2, v, e1, e2, ⟨p, ws, e3, e4, ra⟩, z⟩ := fr.focus hi
  subst e4; subst e3
  refine ⟨p, ws, O1, O2, e1, e2, ra, fun G' ws' ys e r => ?_⟩
  have f := z G' (own ys) (some (.ref p)) [(p, .lst ws')] e ⟨p, ws', rfl, rfl, r⟩
  have : σ.set i (some (.ref p)) = σ := by
    refine List.ext_getElem? fun j => ?_
    rw [List.getElem?_set]
    by_cases h : i = j
    · subst h
      rw [if_pos rfl, e2, if_pos (List.getElem?_eq_some_iff.mp e2).1]
    · rw [if_neg h]
  rw [this] at f
  exact f
theorem StW.append {i : Nat} {xs : List α} {m : W α} (hi : D[i]? = some (own xs)) (h : EW XP D te m) : StW XP D (tDrop (tBM K "list" rAppend (tVar i) (tCons te tNil))) (m.bind fun a => W.chk (xs.length ≤ 1000000) (W.pure (xs ++ [a]))) fun ys => D.set i (own ys) := fun B O0 O G H σ Ds fr s q => by
  obtain ⟨p, ws, O1, O2, e1, e2, ra, z⟩ := fr.ownAt hi
  have hp : H p = some (.lst ws) := (s.own (p, .lst ws) (by rw [e1]; simp)).1
  refine ⟨.ref p, e2, .inl ⟨rfl, ws, SqL.of hp⟩, h fr s (m.mono (fun a ⟨c, k⟩ v G2 H2 e s2 r => ?_) (fun _ x => x) q)⟩
  have s3 : Sx B ((p, .lst ws) :: (O1 ++ O2 ++ O0)) G2 H2 := by rw [e1] at s2; exact s2.perm mid_head
  exact ⟨p, ws, v, rfl, rfl, s3.head.1, line_lt (by rw [all2_len ra]; exact c), k σ _ G2 _ e (z G2 (ws ++ [v]) (xs ++ [a]) e (all2_app (all2_up e ra) (all2_one r))) (s3.put.perm mid_new)⟩
theorem StW.insert {i : Nat} {xs : List α} {n : W Int} {m : W α} (hi : D[i]? = some (own xs)) (h : EW XP D ta n) (h' : EW XP D te m) : StW XP D (tDrop (tBM K "list" rInsert (tVar i) (tCons ta (tCons te tNil)))) (n.bind fun j => m.bind fun a => W.chk (xs.length ≤ 1000000 ∧ 0 ≤ j ∧ j < 2 ^ 63) (W.pure (xs.take j.toNat ++ [a] ++ xs.drop j.toNat))) fun ys => D.set i (own ys) := fun B O0 O G H σ Ds fr s q => by
  obtain ⟨p, ws, O1, O2, e1, e2, ra, z⟩ := fr.ownAt hi
  have hp : H p = some (.lst ws) := (s.own (p, .lst ws) (by rw [e1]; simp)).1
  refine ⟨.ref p, e2, .inl ⟨rfl, ws, SqL.of hp⟩, h fr s (n.mono (fun j k u G2 H2 e s2 rj => h' (fr.up e) s2 (m.mono (fun a ⟨c, k⟩ v G3 H3 e3 s3 r => ?_) (PX.up e) k)) (fun _ x => x) q)⟩
  have s4 : Sx B ((p, .lst ws) :: (O1 ++ O2 ++ O0)) G3 H3 := by rw [e1] at s3; exact s3.perm mid_head
  have ee := Ex.t e e3
  exact ⟨p, ws, j, v, rfl, by rw [rj], s4.head.1, line_lt (by rw [all2_len ra]; exact c.1), c.2.1, c.2.2, k σ _ G3 _ ee (z G3 _ _ ee (all2_app (all2_app (all2_take _ (all2_up ee ra)) (all2_one r)) (all2_drop _ (all2_up ee ra)))) (s4.put.perm mid_new)⟩
theorem StW.reverse {i : Nat} {xs : List α} (hi : D[i]? = some (own xs)) : StW XP D (tDrop (tBM K "list" rReverse (tVar i) tNil)) (W.pure xs.reverse) fun ys => D.set i (own ys) := fun B O0 O G H σ Ds fr s q => by
  obtain ⟨p, ws, O1, O2, e1, e2, ra, z⟩ := fr.ownAt hi
  have s3 : Sx B ((p, .lst ws) :: (O1 ++ O2 ++ O0)) G H := by rw [e1] at s; exact s.perm mid_head
  exact ⟨.ref p, e2, .inl ⟨rfl, ws, SqL.of s3.head.1⟩, p, ws, rfl, rfl, s3.head.1, q σ _ G _ Ex.r (z G _ _ Ex.r (all2_rev ra)) (s3.put.perm mid_new)⟩
theorem StW.clear {i : Nat} {xs : List α} (hi : D[i]? = some (own xs)) : StW XP D (tDrop (tBM K "list" rClear (tVar i) tNil)) (W.pure []) fun ys : List α => D.set i (own ys) := fun B O0 O G H σ Ds fr s q => by
  obtain ⟨p, ws, O1, O2, e1, e2, ra, z⟩ := fr.ownAt hi
  have s3 : Sx B ((p, .lst ws) :: (O1 ++ O2 ++ O0)) G H := by rw [e1] at s; exact s.perm mid_head
  exact ⟨.ref p, e2, .inl ⟨rfl, ws, SqL.of s3.head.1⟩, p, ws, rfl, rfl, s3.head.1, q σ _ G _ Ex.r (z G _ _ Ex.r .nil) (s3.put.perm mid_new)⟩
end
end Dk

set_option Elab.async false
set_option linter.all false
set_option maxRecDepth 100000
set_option maxHeartbeats 1000000
namespace Dk
open PySem PySem.Spec PyProof.Rows L2
open Evl (Ex)
open Py (rp)
open PyD (pic)
def W.get {α : Type} (o : Option α) : W α := ⟨fun Q _ => ∃ a, o = some a ∧ Q a, fun h _ ⟨a, e, q⟩ => ⟨a, e, h a q⟩⟩
theorem W.get_some {α : Type} (a : α) : W.get (some a) = W.pure a := W.ext fun Q E => propext ⟨fun ⟨b, e, q⟩ => by cases e; exact q, fun q => ⟨a, rfl, q⟩⟩
/-- xs[i], from the back too -/
def PyAt {α : Type} (xs : List α) (i : Int) : Option α := (ixN xs.length i).bind fun k => xs[k]?
theorem PyAt_nat {α : Type} {xs : List α} {i : Nat} : PyAt xs (i : Int) = xs[i]? := by
  unfold PyAt
  by_cases h : i < xs.length
  · rw [Evl.ixN_nat h]; rfl
  · rw [List.getElem?_eq_none (by omega)]
    unfold ixN
    rw [if_pos (by omega)]
    first
      | (rw [if_neg (by omega)]; rfl)
      | (simp; omega)
section
variable {α β γ δ A ι κ S S' S2 R L : Type} [Py α] [Py β] [Py γ] [Py δ] [Py ι] {XP : XPost} {D D1 D2 : List Sl} {te ta tb tc td tl : TE} {tt tu : TT} {ts tz tw : TS} {B : Option Addr} {O O0 : Ow} {G G1 G2 H : Hp} {σ : L2.St} {K : PySem.W.Frag} {g : TG} {wi : TI}
theorem EvW.ofD {a : α} (h : EvD B O te σ G a) : EvW B O te σ G (W.pure a) := fun G1 H1 e s Q E q => h G1 H1 e s Q fun v b G2 H2 p e2 s2 r => by subst p; exact q v G2 H2 e2 s2 r
theorem EvW.ofP {P : α → Prop} (h : EvP B O te σ G P) : EvW B O te σ G (W.pick P) := fun G1 H1 e s Q E q => h G1 H1 e s Q fun v b G2 H2 p e2 s2 r => q b p v G2 H2 e2 s2 r
theorem EvW.chk {m : W α} {c : Prop} (h : c → EvW B O te σ G m) : EvW B O te σ G (W.chk c m) := fun G1 H1 e s Q E q => h q.1 G1 H1 e s Q E q.2
def EvWN (B : Option Addr) (O : Ow) (te : TE) (σ : L2.St) (G : Hp) (m : W (List α)) : Prop :=
  ∀ G1 H1, Ex G G1 → Sx B O G1 H1 → ∀ (Q : VK) (E : Exn → Prop), m.run (fun xs => ∀ p ws G2 H2, Ex G1 G2 → Sx B ((p, .lst ws) :: O) G2 H2 → All2 G2 ws xs → Q (.ref p) H2) E → te σ H1 Q
theorem EvWN.ofD {a : List α} (h : EvM B O te σ G a) : EvWN B O te σ G (W.pure a) := fun G1 H1 e s Q E q => h G1 H1 e s Q fun p ws b G2 H2 pb e2 s2 r => by subst pb; exact q p ws G2 H2 e2 s2 r
theorem EvWN.ofP {P : List α → Prop} (h : EvN B O te σ G P) : EvWN B O te σ G (W.pick P) := fun G1 H1 e s Q E q => h G1 H1 e s Q fun p ws b G2 H2 pb e2 s2 r => q b pb p ws G2 H2 e2 s2 r
theorem EvWN.chk {m : W (List α)} {c : Prop} (h : c → EvWN B O te σ G m) : EvWN B O te σ G (W.chk c m) := fun G1 H1 e s Q E q => h q.1 G1 H1 e s Q E q.2
theorem EWN.lift {C : TE → TE} {m : W α} {g : α → W (List β)} (h : EW XP D te m) (hC : ∀ t σ H Q, C t σ H Q = t σ H (fun v H1 => C (tC v) σ H1 Q)) (r : ∀ x v G B O σ, rp G v x → EvWN B O (C (tC v)) σ G (g x)) : EWN XP D (C te) (m.bind g) := fun B O0 O G H σ Q f s q => by
  rw [hC]
  exact h f s (m.mono (fun a k v G2 H2 e2 s2 ra => r a v G2 B (O ++ O0) σ ra G2 H2 Ex.r s2 Q _ ((g a).mono (fun z k2 p ws G3 H3 e3 s3 => k2 p ws G3 H3 (Ex.t e2 e3) s3) (fun _ x => x) k)) (fun _ x => x) q)
theorem cstD {v : V} {x : α} (r : rp G v x) : EvD B O (tC v) σ G x := fun G1 H1 e s Q q => q v x G1 H1 rfl Ex.r s (Py.up e r)
/-! ### operators on values -/
theorem w_addI (x y : Int) : Op2W rPlus x y (W.pure (x + y)) := .of o2_addI
theorem w_addS (x y : Str) : Op2W rPlus x y (W.chk (x.length + y.length ≤ 1000000) (W.pure (x ++ y))) := .chk fun c => .of (o2_addS c)
theorem w_addL (x y : List α) : Op2WN rPlus x y (W.chk (x.length + y.length ≤ 1000000) (W.pure (x ++ y))) := .chk fun c => .of (o2_addL c)
theorem w_subI (x y : Int) : Op2W (rI0 fun i j => .int (i - j)) x y (W.pure (x - y)) := .of o2_subI
theorem w_mulI (x y : Int) : Op2W rTimes x y (W.chk (CMul x y) (W.pure (x * y))) := .chk fun c => .of (o2_mulI c)
theorem w_mulS (x : Str) (y : Int) : Op2W rTimes x y (W.chk (0 ≤ y ∧ y ≤ 1000000 ∧ x.length ≤ 10) (W.pure (PySem.Txt.mul x y))) := .chk fun c => .of (o2_mulS c.1 c.2.1 c.2.2)
theorem w_mulL (x : List α) (y : Int) : Op2WN rTimes x y (W.chk (0 ≤ y ∧ x.length * y.toNat ≤ 1000000 ∧ y ≤ 1000000) (W.pure (List.replicate y.toNat x).flatten)) := .chk fun c => .of (o2_mulL c.1 c.2.1 c.2.2)
theorem w_mod (x y : Int) : Op2W (rI (fun _ j => 0 < j) fun i j => .int (i % j)) x y (W.chk (0 < y) (W.pure (x % y))) := .chk fun c => .of (o2_mod c)
theorem w_fdiv (x y : Int) : Op2W (rI CDivW fun i j => .int (i / j)) x y (W.chk (CDivW x y) (W.pure (x / y))) := .chk fun c => .of (o2_fdiv c)
theorem w_pow (x y : Int) : Op2W (rI CPow fun i j => .int (i ^ j.toNat)) x y (W.chk (CPow x y) (W.pure (x ^ y.toNat))) := .chk fun c => .of (o2_pow c)
theorem w_lt (x y : Int) : Op2W (rI0 fun i j => .bl (decide (i < j))) x y (W.pure (decide (x < y))) := .of o2_lt
theorem w_le (x y : Int) : Op2W (rI0 fun i j => .bl (decide (i ≤ j))) x y (W.pure (decide (x ≤ y))) := .of o2_le
theorem w_gt (x y : Int) : Op2W (rI0 fun i j => .bl (decide (j < i))) x y (W.pure (decide (y < x))) := .of o2_gt
theorem w_ge (x y : Int) : Op2W (rI0 fun i j => .bl (decide (j ≤ i))) x y (W.pure (decide (y ≤ x))) := .of o2_ge
theorem w_eqS (x y : Str) : Op2W (rEqU K) x y (W.pure (decide (x = y))) := .of o2_eqS
theorem w_neS (x y : Str) : Op2W (rNeU K) x y (W.pure (!decide (x = y))) := .of o2_neS
theorem w_eqI (x y : Int) : Op2W (rEqU K) x y (W.pure (decide (x = y))) := .of o2_eqI
theorem w_neI (x y : Int) : Op2W (rNeU K) x y (W.pure (!decide (x = y))) := .of o2_neI
theorem w_eqD {α : Type} [DecidableEq α] [PyD α] (hd : PyD.deep α ≤ 40) (x y : α) : Op2W (rEqU K) x y (W.chk (PyD.ok x ∧ PyD.ok y) (W.pure (decide (x = y)))) := .chk fun c => .of (o2_eq c.1 c.2 hd)
theorem w_neD {α : Type} [DecidableEq α] [PyD α] (hd : PyD.deep α ≤ 40) (x y : α) : Op2W (rNeU K) x y (W.chk (PyD.ok x ∧ PyD.ok y) (W.pure (!decide (x = y)))) := .chk fun c => .of (o2_ne c.1 c.2 hd)
theorem w_inL (x : Str) (y : List Str) : Op2W (rInAny K) x y (W.pure (decide (x ∈ y))) := .of o2_inL
theorem w_notInL (x : Str) (y : List Str) : Op2W (rNotInAny K) x y (W.pure (!decide (x ∈ y))) := .of o2_notInL
def memD {α : Type} [DecidableEq α] (x : α) (y : List α) : Bool := decide (x ∈ y)
theorem memD_iff {α : Type} [DecidableEq α] {x : α} {y : List α} : memD x y = true ↔ x ∈ y := by unfold memD; exact decide_eq_true_iff
theorem w_inP {α : Type} [DecidableEq α] [PyD α] (hd : PyD.deep α ≤ 39) (x : α) (y : List α) : Op2W (rInD K) x y (W.chk (PyD.ok x ∧ PyD.ok y) (W.pure (memD x y))) := .chk fun c => .of (o2_inP c.1 c.2 hd)
theorem w_notInP {α : Type} [DecidableEq α] [PyD α] (hd : PyD.deep α ≤ 39) (x : α) (y : List α) : Op2W (rNotInD K) x y (W.chk (PyD.ok x ∧ PyD.ok y) (W.pure (!memD x y))) := .chk fun c => .of (o2_notInP c.1 c.2 hd)
theorem w_ixL (xs : List α) (i : Int) : Op2W (rIx K) xs i (W.get (PyAt xs i)) := fun B O G H v w s hv hw Q E ⟨a, ea, q⟩ => by
  obtain ⟨p, vs, rfl, hp, r⟩ := hv
  unfold PyAt at ea
  cases e : ixN xs.length i with
  | none => rw [e] at ea; cases ea
  | some k =>
    rw [e] at ea
    obtain ⟨u, hu, ru⟩ := all2_get r ea
    refine .inl ⟨p, vs, i, u, rfl, hw, SqL.of (s.ex p _ hp), ?_, q u G H Ex.r s ru⟩
    unfold atI
    rw [all2_len r, e]
    exact hu
theorem w_ix0 (p : α × β) : Op2W (rIx K) p (0 : Int) (W.pure p.1) := .of o2_ix0
theorem w_ix1 (p : α × β) : Op2W (rIx K) p (1 : Int) (W.pure p.2) := .of o2_ix1
/-! ### built-ins -/
theorem EW.lenL {m : W (List α)} (h : EW XP D te m) : EW XP D (tCB (rLen K) (tCons te tNil)) (m.bind fun xs => W.pure (xs.length : Int)) := EW.lift (C := fun t => tCB (rLen K) (tCons t tNil)) h (fun _ _ _ _ => rfl) fun x v G B O σ r => .ofD (ev_lenD (cstD r))
theorem EW.lenS {m : W Str} (h : EW XP D te m) : EW XP D (tCB (rLen K) (tCons te tNil)) (m.bind fun z => W.chk (z.length ≤ 1000000) (W.pure (z.length : Int))) := EW.lift (C := fun t => tCB (rLen K) (tCons t tNil)) h (fun _ _ _ _ => rfl) fun x v G B O σ r => .chk fun c => .ofD (ev_lenS (cstD r) c)
theorem EW.lenP {m : W (α × β)} (h : EW XP D te m) : EW XP D (tCB (rLen K) (tCons te tNil)) (m.bind fun _ => W.pure (2 : Int)) := EW.lift (C := fun t => tCB (rLen K) (tCons t tNil)) h (fun _ _ _ _ => rfl) fun x v G B O σ r => .ofD (ev_lenP (cstD r))
theorem EW.intB {m : W Bool} (h : EW XP D te m) : EW XP D (tCB rInt (tCons te tNil)) (m.bind fun b => W.pure (b2n b)) := EW.lift (C := fun t => tCB rInt (tCons t tNil)) h (fun _ _ _ _ => rfl) fun x v G B O σ r => .ofD (ev_intB (cstD r))
theorem EW.abs {m : W Int} (h : EW XP D te m) : EW XP D (tCB rAbs (tCons te tNil)) (m.bind fun i => W.pure (if i < 0 then -i else i)) := EW.lift (C := fun t => tCB rAbs (tCons t tNil)) h (fun _ _ _ _ => rfl) fun x v G B O σ r => .ofD (ev_abs (cstD r))
theorem EW.neg {m : W Int} (h : EW XP D te m) : EW XP D (tUn (rU fun i => .int (-i)) te) (m.bind fun i => W.pure (-i)) := EW.lift (C := fun t => tUn (rU fun i => .int (-i)) t) h (fun _ _ _ _ => rfl) fun x v G B O σ r => .ofD (ev_neg (cstD r))
theorem EW.all {m : W (List Bool)} (h : EW XP D te m) : EW XP D (tCB (rAll K) (tCons te tNil)) (m.bind fun bs => W.pure (bs.all id)) := EW.lift (C := fun t => tCB (rAll K) (tCons t tNil)) h (fun _ _ _ _ => rfl) fun x v G B O σ r => .ofD (ev_all (cstD r))
theorem EW.any {m : W (List Bool)} (h : EW XP D te m) : EW XP D (tCB (rAny K) (tCons te tNil)) (m.bind fun bs => W.pure (bs.any id)) := EW.lift (C := fun t => tCB (rAny K) (tCons t tNil)) h (fun _ _ _ _ => rfl) fun x v G B O σ r => .ofD (ev_any (cstD r))
theorem EWN.list {m : W (List α)} (h : EW XP D te m) : EWN XP D (tCB (rList K) (tCons te tNil)) (m.bind fun xs => W.pure xs) := EWN.lift (C := fun t => tCB (rList K) (tCons t tNil)) h (fun _ _ _ _ => rfl) fun x v G B O σ r => .ofD (en_list (cstD r))
theorem EWN.sortS {m : W (List Str)} (h : EW XP D te m) : EWN XP D (tCB (rSortedS K) (tCons te tNil)) (m.bind fun xs => W.chk (xs.length < 64) (W.pick fun ys => ys.Perm xs ∧ sortedS ys = true)) := EWN.lift (C := fun t => tCB (rSortedS K) (tCons t tNil)) h (fun _ _ _ _ => rfl) fun x v G B O σ r => .chk fun c => .ofP (en_sortedS (cstD r) c)
theorem EWN.sortSS {m : W (List (Str × Str))} (h : EW XP D te m) : EWN XP D (tCB (rSrtSS K) (tCons te tNil)) (m.bind fun xs => W.pick fun ys => ys.Perm xs ∧ ys.Pairwise fun p q => lexS q p = false) := EWN.lift (C := fun t => tCB (rSrtSS K) (tCons t tNil)) h (fun _ _ _ _ => rfl) fun x v G B O σ r => .ofP (en_sortedSS (cstD r))
theorem EWN.sortD {m : W (Dct α)} (h : EW XP D te m) : EWN XP D (tCB rSrtD (tCons te tNil)) (m.bind fun d => W.chk (d.items.length < 64) (W.pick fun ys => ys.Perm (d.items.map (·.1)) ∧ sortedS ys = true)) := EWN.lift (C := fun t => tCB rSrtD (tCons t tNil)) h (fun _ _ _ _ => rfl) fun x v G B O σ r => .chk fun c => .ofP (en_sortedD (cstD r) c)
theorem EW.dict {m : W (List (Str × α))} (h : EW XP D te m) : EW XP D (tCB (rDct K) (tCons te tNil)) (m.bind fun xs => W.chk ((xs.map (·.1)).Nodup) (W.pure (Dct.mk xs))) := EW.lift (C := fun t => tCB (rDct K) (tCons t tNil)) h (fun _ _ _ _ => rfl) fun x v G B O σ r => .chk fun c => .ofD ((ev_dict (P := fun xs => xs = x) (cstD r) fun xs e => e ▸ c).imp fun d e => by cases d; exact congrArg Dct.mk e)
theorem EW.repr {α : Type} [DecidableEq α] [PyD α] {m : W α} (hd : PyD.deep α ≤ 40) (h : EW XP D te m) : EW XP D (tCB (rRepr K) (tCons te tNil)) (m.bind fun a => W.chk (PyD.okr a ∧ PyD.size a ≤ 1000000) (W.pure (pic a).shown)) := EW.lift (C := fun t => tCB (rRepr K) (tCons t tNil)) h (fun _ _ _ _ => rfl) fun x v G B O σ r => .chk fun c => .ofD (ev_repr (cstD r) c.1 c.2 hd)
/-- two places, evaluated in turn -/
theorem EW.lift2 {C : TE → TE → TE} {m : W α} {n : W β} {g : α → β → W γ} (h : EW XP D ta m) (h' : EW XP D tb n) (hC : ∀ t u σ H Q, C t u σ H Q = t σ H (fun v H1 => u σ H1 fun w H2 => C (tC v) (tC w) σ H2 Q)) (r : ∀ x y v w G B O σ, rp G v x → rp G w y → EvW B O (C (tC v) (tC w)) σ G (g x y)) : EW XP D (C ta tb) (m.bind fun x => n.bind fun y => g x y) := fun B O0 O G H σ Q f s q => by
  rw [hC]
  exact h f s (m.mono (fun a k v G2 H2 e2 s2 ra => h' (f.up e2) s2 (n.mono (fun b k2 w G3 H3 e3 s3 rb => r a b v w G3 B (O ++ O0) σ (Py.up e3 ra) rb G3 H3 Ex.r s3 Q _ ((g a b).mono (PV.up (Ex.t e2 e3)) (fun _ x => x) k2)) (PX.up e2) k)) (fun _ x => x) q)
theorem EWN.lift2 {C : TE → TE → TE} {m : W α} {n : W β} {g : α → β → W (List γ)} (h : EW XP D ta m) (h' : EW XP D tb n) (hC : ∀ t u σ H Q, C t u σ H Q = t σ H (fun v H1 => u σ H1 fun w H2 => C (tC v) (tC w) σ H2 Q)) (r : ∀ x y v w G B O σ, rp G v x → rp G w y → EvWN B O (C (tC v) (tC w)) σ G (g x y)) : EWN XP D (C ta tb) (m.bind fun x => n.bind fun y => g x y) := fun B O0 O G H σ Q f s q => by
  rw [hC]
  exact h f s (m.mono (fun a k v G2 H2 e2 s2 ra => h' (f.up e2) s2 (n.mono (fun b k2 w G3 H3 e3 s3 rb => r a b v w G3 B (O ++ O0) σ (Py.up e3 ra) rb G3 H3 Ex.r s3 Q _ ((g a b).mono (fun z k3 p ws G4 H4 e4 s4 => k3 p ws G4 H4 (Ex.t (Ex.t e2 e3) e4) s4) (fun _ x => x) k2)) (PX.up e2) k)) (fun _ x => x) q)
theorem EW.max2 {m n : W Int} (h : EW XP D ta m) (h' : EW XP D tb n) : EW XP D (tCB rMax2 (tCons ta (tCons tb tNil))) (m.bind fun i => n.bind fun j => W.pure (max i j)) := EW.lift2 (C := fun t u => tCB rMax2 (tCons t (tCons u tNil))) h h' (fun _ _ _ _ _ => rfl) fun x y v w G B O σ r r' => .ofD (ev_max2 (cstD r) (cstD r'))
theorem EW.min2 {m n : W Int} (h : EW XP D ta m) (h' : EW XP D tb n) : EW XP D (tCB rMin2 (tCons ta (tCons tb tNil))) (m.bind fun i => n.bind fun j => W.pure (min i j)) := EW.lift2 (C := fun t u => tCB rMin2 (tCons t (tCons u tNil))) h h' (fun _ _ _ _ _ => rfl) fun x y v w G B O σ r r' => .ofD (ev_min2 (cstD r) (cstD r'))
theorem EW.pair {m : W α} {n : W β} (h : EW XP D ta m) (h' : EW XP D tb n) : EW XP D (tTup (tCons ta (tCons tb tNil))) (m.bind fun a => n.bind fun b => W.pure (a, b)) := EW.lift2 (C := fun t u => tTup (tCons t (tCons u tNil))) h h' (fun _ _ _ _ _ => rfl) fun x y v w G B O σ r r' => .ofD (ev_pairD (cstD r) (cstD r'))
/-- [a, b, ..] -/
def EWL (XP : XPost) (D : List Sl) (t : TA) (m : W (List α)) : Prop :=
  ∀ ⦃B : Option Addr⦄ ⦃O0 O : Ow⦄ ⦃G H : Hp⦄ ⦃σ : L2.St⦄ ⦃Q : List V → Hp → Prop⦄, Fr B G D σ O → Sx B (O ++ O0) G H → m.run (fun xs => ∀ vs G2 H2, Ex G G2 → Sx B (O ++ O0) G2 H2 → All2 G2 vs xs → Q vs H2) (PX XP B O0 G) → t σ H Q
theorem EWL.nil : EWL (α := α) XP D tNil (W.pure []) := fun _ _ _ _ _ _ _ fr s q => q [] _ _ Ex.r s .nil
theorem EWL.cons {tr : TA} {m : W α} {mr : W (List α)} (h : EW XP D te m) (hr : EWL XP D tr mr) : EWL XP D (tCons te tr) (m.bind fun a => mr.bind fun r => W.pure (a :: r)) := fun B O0 O G H σ Q fr s q =>
  h fr s (m.mono (fun a k v G2 H2 e2 s2 rv => hr (fr.up e2) s2 (mr.mono (fun r k2 ws G3 H3 e3 s3 rr => k2 (v :: ws) G3 H3 (Ex.t e2 e3) s3 (.cons (Py.up e3 rv) rr)) (PX.up e2) k)) (fun _ x => x) q)
theorem EWN.lst {m : W (List α)} {t : TA} (h : EWL XP D t m) : EWN XP D (tLst t) (m.bind fun xs => W.chk (xs.length ≤ 1000000) (W.pure xs)) := fun B O0 O G H σ Q fr s q => h fr s (m.mono (fun xs ⟨c, k⟩ vs G2 H2 e s2 r => ⟨line_le (by rw [all2_len r]; exact c), fun l hl => k l vs G2 _ e (s2.mine hl) r⟩) (fun _ x => x) q)
/-- the parts of a slice -/
def EWO (XP : XPost) (D : List Sl) (to : TO) (m : W (Option Int)) : Prop :=
  ∀ ⦃B : Option Addr⦄ ⦃O0 O : Ow⦄ ⦃G H : Hp⦄ ⦃σ : L2.St⦄ ⦃Q : Option Int → Hp → Prop⦄, Fr B G D σ O → Sx B (O ++ O0) G H → m.run (fun a => ∀ G2 H2, Ex G G2 → Sx B (O ++ O0) G2 H2 → Q a H2) (PX XP B O0 G) → to σ H Q
theorem EWO.no : EWO XP D tNoPart (W.pure none) := fun _ _ _ _ _ _ _ fr s q => q _ _ Ex.r s
theorem EWO.part {m : W Int} (h : EW XP D te m) : EWO XP D (tPart te) (m.bind fun i => W.pure (some i)) := fun B O0 O G H σ Q fr s q => h fr s (m.mono (fun i k v G2 H2 e s2 r => ⟨i, r, k G2 H2 e s2⟩) (fun _ x => x) q)
theorem EWN.cut {m : W (List α)} {ml mh : W (Option Int)} {tl th : TO} (h : EW XP D te m) (h1 : EWO XP D tl ml) (h2 : EWO XP D th mh) : EWN XP D (tSl (rCut K) te tl th) (m.bind fun xs => ml.bind fun lo => mh.bind fun hi => W.pure (cutL xs lo hi)) := fun B O0 O G H σ Q fr s q =>
  h fr s (m.mono (fun xs k v G2 H2 e2 s2 r => h1 (fr.up e2) s2 (ml.mono (fun lo k2 G3 H3 e3 s3 => h2 (fr.up (Ex.t e2 e3)) s3 (mh.mono (fun hi k3 G4 H4 e4 s4 => by
    obtain ⟨a, vs, rfl, ha, ra⟩ := r
    have e34 := Ex.t e3 e4
    refine .inl ⟨a, vs, rfl, SqL.of (s4.ex a _ (e34 a _ ha)), fun l hl => k3 l _ G4 _ (Ex.t e2 e34) (s4.mine hl) ?_⟩
    unfold cutV cutL
    rw [all2_len ra]
    exact all2_take _ (all2_drop _ (all2_up e34 ra))) (PX.up (Ex.t e2 e3)) k2)) (PX.up e2) k)) (fun _ x => x) q)
theorem EW.cutS {m : W Str} {ml mh : W (Option Int)} {tl th : TO} (h : EW XP D te m) (h1 : EWO XP D tl ml) (h2 : EWO XP D th mh) : EW XP D (tSl (rCut K) te tl th) (m.bind fun z => ml.bind fun lo => mh.bind fun hi => W.chk (z.length ≤ 1000000) (W.pure (cutS z lo hi))) := fun B O0 O G H σ Q fr s q =>
  h fr s (m.mono (fun z k v G2 H2 e2 s2 r => h1 (fr.up e2) s2 (ml.mono (fun lo k2 G3 H3 e3 s3 => h2 (fr.up (Ex.t e2 e3)) s3 (mh.mono (fun hi ⟨c, k3⟩ G4 H4 e4 s4 => .inr ⟨z, r, line_le c, k3 _ G4 H4 (Ex.t e2 (Ex.t e3 e4)) s4 rfl⟩) (PX.up (Ex.t e2 e3)) k2)) (PX.up e2) k)) (fun _ x => x) q)
/-! ### dicts with texts as keys -/
theorem EW.dget {m : W (Dct β)} {n : W Str} (h : EW XP D td m) (h' : EW XP D ta n) : EW XP D (tDGet td ta) (m.bind fun d => n.bind fun x => W.chk ((d.items.map (·.1)).Nodup) (W.get (d.items.lookup x))) := EW.lift2 (C := fun t u => tDGet t u) (g := fun d x => W.chk ((d.items.map (·.1)).Nodup) (W.get (d.items.lookup x))) h h' (fun _ _ _ _ _ => rfl) fun d x v w G B O σ r r' => .chk fun c => fun G1 H1 e s Q E ⟨a, ea, q⟩ =>
  ev_dget (x := x) (c := a) (cstD r) (cstD r') c (by
    revert ea
    generalize d.items = l
    intro ea
    induction l with
    | nil => cases ea
    | cons p l ih =>
      rw [List.lookup_cons] at ea
      by_cases hx : x == p.1
      · rw [hx] at ea
        have : p.2 = a := Option.some.inj ea
        rw [show x = p.1 from eq_of_beq hx, ← this]
        exact List.mem_cons_self ..
      · rw [Bool.not_eq_true] at hx
        rw [hx] at ea
        exact List.mem_cons_of_mem _ (ih ea)) G1 H1 e s Q fun v2 a2 G2 H2 p e2 s2 r2 => by subst p; exact q v2 G2 H2 e2 s2 r2
theorem EW.dnotin {m : W Str} {n : W (Dct β)} (h : EW XP D ta m) (h' : EW XP D td n) : EW XP D (tDNotIn ta td) (m.bind fun x => n.bind fun d => W.chk ((d.items.map (·.1)).Nodup) (W.pure (!decide (x ∈ d.items.map (·.1))))) := EW.lift2 (C := fun t u => tDNotIn t u) h h' (fun _ _ _ _ _ => rfl) fun x d v w G B O σ r r' => .chk fun c => .ofD (ev_dnotinB (cstD r) (cstD r') c)
/-! ### texts -/
theorem EW.join {m : W Str} {n : W (List Str)} (h : EW XP D ta m) (h' : EW XP D tb n) : EW XP D (tM1 (fun x xs H Q => ∃ a p, ∃ ys : List Str, x = .str a ∧ xs = [.ref p] ∧ (SqL K H p (ys.map V.str) ∨ SqT K H p (ys.map V.str)) ∧
    (ys.map (·.length)).sum + ys.length * a.length ≤ 16777216 ∧ Q (.str (PySem.Txt.join a ys)) H) ta tb) (m.bind fun a => n.bind fun ys => W.chk ((ys.map (·.length)).sum + ys.length * a.length ≤ 1000000) (W.pure (PySem.Txt.join a ys))) := fun B O0 O G H σ Q f s q =>
  h f s (m.mono (fun a k v G2 H2 e2 s2 ra => ⟨⟨a, ra⟩, h' (f.up e2) s2 (n.mono (fun ys ⟨c, k2⟩ w G3 H3 e3 s3 ⟨l, vs, ew, hl, r3⟩ => ⟨a, l, ys, ra, by rw [ew], .inl (SqL.of (s3.ex l _ (by rw [hl, all2_strs r3]))), Nat.le_trans c (by decide), k2 _ G3 H3 (Ex.t e2 e3) s3 rfl⟩) (PX.up e2) k)⟩) (fun _ x => x) q)
theorem EWN.split {m n : W Str} (h : EW XP D ta m) (h' : EW XP D tb n) : EWN XP D (tM1 (fun x xs H Q => ∃ a b, x = .str a ∧ xs = [.str b] ∧ (b.length == 0) = false ∧ a.length + 2 ≤ sizeLine ∧ rNewStrs (PySem.Txt.split a b) H Q) ta tb) (m.bind fun a => n.bind fun b => W.chk ((b.length == 0) = false ∧ a.length ≤ 1000000) (W.pure (PySem.Txt.split a b))) := fun B O0 O G H σ Q f s q =>
  h f s (m.mono (fun a k v G2 H2 e2 s2 ra => ⟨⟨a, ra⟩, h' (f.up e2) s2 (n.mono (fun b ⟨c, k2⟩ w G3 H3 e3 s3 r3 => ⟨a, b, ra, by rw [r3], c.1, Nat.le_trans (Nat.add_le_add_right c.2 2) (by decide), fun l hl => k2 l _ G3 _ (Ex.t e2 e3) (s3.mine hl) (all2_of_strs _)⟩) (PX.up e2) k)⟩) (fun _ x => x) q)
/-! ### of one's own list, read where it stands -/
theorem EW.lenO {i : Nat} {xs : List α} (hi : D[i]? = some (own xs)) : EW XP D (tCB (rLen K) (tCons (tVar i) tNil)) (W.pure (xs.length : Int)) := fun B O0 O G H σ Q fr s q => by
  obtain ⟨p, ws, O1, O2, e1, e2, ra, z⟩ := fr.ownAt hi
  have hp : H p = some (.lst ws) := (s.own (p, .lst ws) (by rw [e1]; simp)).1
  exact ⟨.ref p, e2, .ref p, ws.length, rfl, .inl ⟨ws, SqL.of hp, rfl⟩, q _ G H Ex.r s (by rw [all2_len ra]; rfl)⟩
theorem EW.ixO {i : Nat} {xs : List α} {m : W Int} (hi : D[i]? = some (own xs)) (h : EW XP D te m) : EW XP D (tOp (rIx K) (tVar i) te) (m.bind fun j => W.get (PyAt xs j)) := fun B O0 O G H σ Q fr s q => by
  obtain ⟨p, ws, O1, O2, e1, e2, ra, z⟩ := fr.ownAt hi
  refine ⟨.ref p, e2, h fr s (m.mono (fun j ⟨a, ea, q⟩ w G2 H2 e s2 rw => ?_) (fun _ x => x) q)⟩
  have hp : H2 p = some (.lst ws) := (s2.own (p, .lst ws) (by rw [e1]; simp)).1
  unfold PyAt at ea
  cases en : ixN xs.length j with
  | none => rw [en] at ea; cases ea
  | some k =>
    rw [en] at ea
    obtain ⟨u, hu, ru⟩ := all2_get ra ea
    refine .inl ⟨p, ws, j, u, rfl, rw, SqL.of hp, ?_, q u G2 H2 e s2 (Py.up e ru)⟩
    unfold atI
    rw [all2_len ra, en]
    exact hu
/-- lent for a while: read as if it stood still -/
theorem Sx.lent {p : Addr} {ws : List V} {R : Ow} (s : Sx B ((p, .lst ws) :: R) G H) : ∃ x : Ow, Sx none (x ++ R) (upd G p (.lst ws)) H ∧ Ex G (upd G p (.lst ws)) ∧ ∀ (y : Ow) G2 H2, Ex (upd G p (.lst ws)) G2 → Sx none (x ++ (y ++ R)) G2 H2 → Sx B ((p, .lst ws) :: (y ++ R)) (del G2 p) H2 ∧ Ex G (del G2 p) := by
  have gp : G p = none := s.head.2
  cases B with
  | none => exact ⟨[], s.freeze.1, s.freeze.2, fun y G2 H2 e s2 => ⟨s2.thaw0 (e p _ upd_same), ex_del gp e⟩⟩
  | some b =>
    obtain ⟨z0, z1, z2, c, cells, hz, hc, s1⟩ := s.bagOwn
    refine ⟨[(b, .lst [.int z0, .int z1, .int z2, .ref c])], s1.swap.freeze.1, s1.swap.freeze.2, fun y G2 H2 e s2 => ?_⟩
    have cp : c ≠ p := ne_of_none hc gp
    refine ⟨((s2.thaw0 (e p _ upd_same)).swap).bagBack hz (cells := cells) ?_, ex_del gp e⟩
    rw [del_ne cp]
    exact e c _ (by rw [upd_ne cp]; exact hc)
def unbag : List Sl → List Sl
  | [] => []
  | .bag :: D => .any :: unbag D
  | s :: D => s :: unbag D
theorem Fr.unbag (fr : Fr B G D σ O) : Fr none G (unbag D) σ O := by
  induction fr with
  | nil => exact .nil
  | @cons s v o D σ O a _ ih =>
    cases s with
    | any => exact .cons a ih
    | bag => exact .cons (s := .any) a.1 ih
    | st i x => exact .cons a ih
    | ow i xs => exact .cons a ih
    | od i ps => exact .cons a ih
    | ov p x => exact .cons a ih
    | oc pk de c i ps => exact .cons a ih
theorem lend_in {x O1 O2 : Ow} : (x ++ (O1 ++ O2 ++ O0)).Perm ((O1 ++ [] ++ O2) ++ (x ++ O0)) := by
  simp only [List.append_nil]
  rw [← List.append_assoc]
  exact app_swap
theorem EW.lend [Firm γ] {i : Nat} {xs : List α} {m : W γ} (hi : D[i]? = some (own xs)) (h : ∀ XP, EW XP (unbag (D.set i (stv xs))) te m) : EW XP D te m := fun B O0 O G H σ Q fr s q => by
  obtain ⟨O1, o, O2, v, e1, e2, ⟨p, ws, e3, e4, ra⟩, z⟩ := fr.focus hi
  subst e4; subst e3
  subst e1
  obtain ⟨x, sL, eL, back⟩ := (s.perm mid_head).lent
  have f := (z (upd G p (.lst ws)) (stv xs) (some (.ref p)) [] eL ⟨rfl, .ref p, rfl, p, ws, rfl, upd_same, all2_up eL ra⟩).unbag
  have : σ.set i (some (.ref p)) = σ := by
    refine List.ext_getElem? fun j => ?_
    rw [List.getElem?_set]
    by_cases hj : i = j
    · subst hj
      rw [if_pos rfl, e2, if_pos (List.getElem?_eq_some_iff.mp e2).1]
    · rw [if_neg hj]
  rw [this] at f
  refine h (fun _ _ _ e => PX XP B O0 G e) f (sL.perm lend_in) (m.mono (fun a k v G2 H2 e s2 r => ?_) (fun e he G1 _ => he) q)
  obtain ⟨s3, e5⟩ := back [] G2 H2 e (s2.perm lend_in.symm)
  exact k v (del G2 p) H2 e5 (s3.perm mid_new) (Firm.keep (e p _ upd_same) r)
theorem EWN.lend [Firm γ] {i : Nat} {xs : List α} {m : W (List γ)} (hi : D[i]? = some (own xs)) (h : ∀ XP, EWN XP (unbag (D.set i (stv xs))) te m) : EWN XP D te m := fun B O0 O G H σ Q fr s q => by
  obtain ⟨O1, o, O2, v, e1, e2, ⟨p, ws, e3, e4, ra⟩, z⟩ := fr.focus hi
  subst e4; subst e3
  subst e1
  obtain ⟨x, sL, eL, back⟩ := (s.perm mid_head).lent
  have f := (z (upd G p (.lst ws)) (stv xs) (some (.ref p)) [] eL ⟨rfl, .ref p, rfl, p, ws, rfl, upd_same, all2_up eL ra⟩).unbag
  have : σ.set i (some (.ref p)) = σ := by
    refine List.ext_getElem? fun j => ?_
    rw [List.getElem?_set]
    by_cases hj : i = j
    · subst hj
      rw [if_pos rfl, e2, if_pos (List.getElem?_eq_some_iff.mp e2).1]
    · rw [if_neg hj]
  rw [this] at f
  refine h (fun _ _ _ e => PX XP B O0 G e) f (sL.perm lend_in) (m.mono (fun a k q' us G2 H2 e s2 r => ?_) (fun e he G1 _ => he) q)
  have s2' : Sx none (x ++ ((q', .lst us) :: (O1 ++ O2 ++ O0))) G2 H2 := s2.perm ((List.Perm.cons _ lend_in.symm).trans acc_in)
  obtain ⟨s3, e5⟩ := back [(q', .lst us)] G2 H2 e s2'
  exact k q' us (del G2 p) H2 e5 (s3.swap.perm (List.Perm.cons _ mid_new)) (all2_keep (e p _ upd_same) r)
theorem EWT.lend {i : Nat} {xs : List α} {m : W Bool} (hi : D[i]? = some (own xs)) (h : ∀ XP, EWT XP (unbag (D.set i (stv xs))) tt m) : EWT XP D tt m := fun B O0 O G H σ Q fr s q => by
  obtain ⟨O1, o, O2, v, e1, e2, ⟨p, ws, e3, e4, ra⟩, z⟩ := fr.focus hi
  subst e4; subst e3
  subst e1
  obtain ⟨x, sL, eL, back⟩ := (s.perm mid_head).lent
  have f := (z (upd G p (.lst ws)) (stv xs) (some (.ref p)) [] eL ⟨rfl, .ref p, rfl, p, ws, rfl, upd_same, all2_up eL ra⟩).unbag
  have : σ.set i (some (.ref p)) = σ := by
    refine List.ext_getElem? fun j => ?_
    rw [List.getElem?_set]
    by_cases hj : i = j
    · subst hj
      rw [if_pos rfl, e2, if_pos (List.getElem?_eq_some_iff.mp e2).1]
    · rw [if_neg hj]
  rw [this] at f
  refine h (fun _ _ _ e => PX XP B O0 G e) f (sL.perm lend_in) (m.mono (fun a k G2 H2 e s2 => ?_) (fun e he G1 _ => he) q)
  obtain ⟨s3, e5⟩ := back [] G2 H2 e (s2.perm lend_in.symm)
  exact k (del G2 p) H2 e5 (s3.perm mid_new)
end
end Dk

set_option Elab.async false
set_option linter.all false
set_option maxRecDepth 100000
set_option maxHeartbeats 1000000
namespace Dk
open PySem PySem.Spec PyProof.Rows L2
open Evl (Ex)
open Py (rp)
open PyD (pic)
section
variable {α β γ δ A ι κ S S' S2 R L : Type} [Py α] [Py β] [Py γ] [Py δ] [Py ι] {XP : XPost} {D D1 D2 : List Sl} {te ta tb tc td tl : TE} {tt tu : TT} {t ts tz tw : TS} {B : Option Addr} {O O0 : Ow} {G G1 G2 H : Hp} {σ : L2.St} {K : PySem.W.Frag}
/-- the arguments fill the frame's first slots; the other slots are bare -/
structure ArFr (ar : AR A) (n : Nat) (D : A → List Sl) : Prop where
  len : ∀ {B G vs a}, ar.rel B G vs a → vs.length = n
  fr : ∀ {B G vs a}, ar.rel B G vs a → ∀ (D' : List Sl) (σ : L2.St), Fr B G D' σ [] → Fr B G (D a ++ D') (vs.map some ++ σ) []
theorem ArFr.nil : ArFr aN 0 (fun _ => []) := ⟨fun h => by rw [show _ = [] from h]; rfl, fun h D' σ f => by rw [show _ = [] from h]; exact f⟩
theorem ArFr.cons {ar : AR A} {n : Nat} {D : A → List Sl} (h : ArFr ar n D) : ArFr (aC (α := α) ar) (n + 1) fun p => stv p.1 :: D p.2 :=
  ⟨fun ⟨v, ws, e, _, r⟩ => by rw [e, List.length_cons, h.len r], fun ⟨v, ws, e, rv, r⟩ D' σ f => by rw [e]; exact .cons (o := []) ⟨rfl, v, rfl, rv⟩ (h.fr r D' σ f)⟩
theorem ArFr.bag {ar : AR A} {n : Nat} {D : A → List Sl} (h : ArFr ar n D) : ArFr (aB ar) (n + 1) fun a => .bag :: D a :=
  ⟨fun ⟨b, ws, e0, e, r⟩ => by rw [e, List.length_cons, h.len r], fun ⟨b, ws, e0, e, r⟩ D' σ f => by rw [e]; exact .cons (o := []) ⟨rfl, b, e0, rfl⟩ (h.fr r D' σ f)⟩
theorem fr_bare : ∀ n, Fr B G (List.replicate n .any) (List.replicate n none) []
  | 0 => .nil
  | n + 1 => .cons (o := []) rfl (fr_bare n)
theorem frStart {ar : AR A} {n : Nat} {Da : A → List Sl} {N : List Str} {vs : List V} {a : A} (h : ArFr ar n Da) (r : ar.rel B G vs a) : Fr B G (Da a ++ List.replicate (N.length - n) .any) (L2.start N vs) [] := by
  have := h.fr r _ _ (fr_bare (N.length - n))
  unfold L2.start
  rw [h.len r]
  exact this
end
section
variable {α A R : Type} {P : Program} {w : World} {K : PySem.W.Frag} {mg : Str → Option Value} {base : Heap} {k : Nat} {f : Addr} {fd : FuncData} {N ps : List Str} {x qual : Str} {st : Stmt}
/-- a def that lets no error out, in steps of StR: its value -/
theorem okV [Py α] {ar : AR A} {n : Nat} {Da : A → List Sl} {m : A → W α} (F : Fun K x qual st f fd) (S : FnScope N ps (defScope st)) (L : ArFr ar n Da) (hn : ps.length = n)
    (body : ∀ (cdv : Value) (A' : Around) (outer : List Env) (s : Shared) (H : Hp) (E : XK), (cxOf CX0 P w K mg base N qual (defScope st) f cdv A' outer s H E).nox.A.guards = some [] →
      Room k (cxOf CX0 P w K mg base N qual (defScope st) f cdv A' outer s H E).nox.A →
      ∃ t, PSs (cxOf CX0 P w K mg base N qual (defScope st) f cdv A' outer s H E).nox (defBody st) t ∧ ∀ a, StR XP0 rmV (Da a ++ List.replicate (N.length - n) .any) t (m a)) :
    FnG P w K mg base CX0 (k + 1) f fd ps (SpV XE0 ar m) :=
  okN F S (fun vs H Q E ⟨B, O, G, a, s, r, q⟩ => by rw [L.len r, hn]) fun cdv A' outer s H vs Q E gd room ⟨B, O, G, a, sx, r, q⟩ => by
    obtain ⟨t, ht, hb⟩ := body cdv A' outer s H E gd room
    exact ⟨t, ht, hb a (frStart L r) (O := []) sx (fun _ _ z => z) ((m a).mono (fun r k G1 e v G2 H2 e2 s2 rr => k v G2 H2 (Ex.t e e2) s2 rr) (fun e he => he) q)⟩
/-- .. a new list -/
theorem okO [Py α] {ar : AR A} {n : Nat} {Da : A → List Sl} {m : A → W (List α)} (F : Fun K x qual st f fd) (S : FnScope N ps (defScope st)) (L : ArFr ar n Da) (hn : ps.length = n)
    (body : ∀ (cdv : Value) (A' : Around) (outer : List Env) (s : Shared) (H : Hp) (E : XK), (cxOf CX0 P w K mg base N qual (defScope st) f cdv A' outer s H E).nox.A.guards = some [] →
      Room k (cxOf CX0 P w K mg base N qual (defScope st) f cdv A' outer s H E).nox.A →
      ∃ t, PSs (cxOf CX0 P w K mg base N qual (defScope st) f cdv A' outer s H E).nox (defBody st) t ∧ ∀ a, StR XP0 rmO (Da a ++ List.replicate (N.length - n) .any) t (m a)) :
    FnG P w K mg base CX0 (k + 1) f fd ps (SpO XE0 ar m) :=
  okN F S (fun vs H Q E ⟨B, O, G, a, s, r, q⟩ => by rw [L.len r, hn]) fun cdv A' outer s H vs Q E gd room ⟨B, O, G, a, sx, r, q⟩ => by
    obtain ⟨t, ht, hb⟩ := body cdv A' outer s H E gd room
    exact ⟨t, ht, hb a (frStart L r) (O := []) sx (fun _ _ z => z) ((m a).mono (fun r k G1 e v ws G2 H2 e2 s2 rr => k v ws G2 H2 (Ex.t e e2) s2 rr) (fun e he => he) q)⟩
theorem okU {ar : AR A} {n : Nat} {Da : A → List Sl} {m : A → W Unit} (F : Fun K x qual st f fd) (S : FnScope N ps (defScope st)) (L : ArFr ar n Da) (hn : ps.length = n)
    (body : ∀ (cdv : Value) (A' : Around) (outer : List Env) (s : Shared) (H : Hp) (E : XK), (cxOf CX0 P w K mg base N qual (defScope st) f cdv A' outer s H E).nox.A.guards = some [] →
      Room k (cxOf CX0 P w K mg base N qual (defScope st) f cdv A' outer s H E).nox.A →
      ∃ t, PSs (cxOf CX0 P w K mg base N qual (defScope st) f cdv A' outer s H E).nox (defBody st) t ∧ ∀ a, StR XP0 rmU (Da a ++ List.replicate (N.length - n) .any) t (m a)) :
    FnG P w K mg base CX0 (k + 1) f fd ps (SpU XE0 ar m) :=
  okN F S (fun vs H Q E ⟨B, O, G, a, s, r, q⟩ => by rw [L.len r, hn]) fun cdv A' outer s H vs Q E gd room ⟨B, O, G, a, sx, r, q⟩ => by
    obtain ⟨t, ht, hb⟩ := body cdv A' outer s H E gd room
    exact ⟨t, ht, hb a (frStart L r) (O := []) sx (fun _ _ z => z) ((m a).mono (fun r k G1 e G2 H2 e2 s2 => k G2 H2 (Ex.t e e2) s2) (fun e he => he) q)⟩
/-- another promise of the same def -/
theorem FnG.imp {CX : CXT} {sp sp' : Sp} (F : FnG P w K mg base CX k f fd ps sp) (h : ∀ vs H Q E, sp' vs H Q E → sp vs H Q E) : FnG P w K mg base CX k f fd ps sp' := ⟨fun vs H Q E q => F.many vs H Q E (h vs H Q E q), fun g r e b v q => F.go g r e b v (h _ _ _ _ q)⟩
/-- a promise in the older words, in the newer -/
theorem FnG.ofF {γ A A' : Type} [Py γ] {ar : Ar A'} {pre : A' → Prop} {post : A' → γ → Prop} {ar2 : AR A} {c : A → A'} (F : FnG P w K mg base CX0 k f fd ps (SpF ar pre post)) (h : ∀ B G vs a, ar2.rel B G vs a → ar B G vs (c a)) :
    FnG P w K mg base CX0 k f fd ps (SpV XE0 ar2 fun a => W.chk (pre (c a)) (W.pick fun r => post (c a) r)) := F.imp fun vs H Q E ⟨B, O, G, a, s, r, q⟩ => ⟨B, O, G, c a, s, h B G vs a r, q.1, fun v z G' H' hz e s' rz => q.2 z hz v G' H' e s' rz⟩
theorem FnG.ofN {γ A A' : Type} [Py γ] {ar : Ar A'} {pre : A' → Prop} {post : A' → List γ → Prop} {ar2 : AR A} {c : A → A'} (F : FnG P w K mg base CX0 k f fd ps (SpN ar pre post)) (h : ∀ B G vs a, ar2.rel B G vs a → ar B G vs (c a)) :
    FnG P w K mg base CX0 k f fd ps (SpO XE0 ar2 fun a => W.chk (pre (c a)) (W.pick fun r => post (c a) r)) := F.imp fun vs H Q E ⟨B, O, G, a, s, r, q⟩ => ⟨B, O, G, c a, s, h B G vs a r, q.1, fun p ws z G' H' hz e s' rz => q.2 z hz p ws G' H' e s' rz⟩
end
end Dk

set_option Elab.async false
set_option linter.all false
set_option maxRecDepth 100000
set_option maxHeartbeats 1000000
namespace Dk
open PySem PySem.Spec PyProof.Rows L2
open Evl (Ex)
open Py (rp)
open PyD (pic)
/-- never None -/
class NN (α : Type) [Py α] : Prop where
  nn : ∀ {G : Hp} {v : V} {a : α}, rp G v a → v ≠ .non
instance : NN Int := ⟨fun h e => by cases h; cases e⟩
instance : NN Str := ⟨fun h e => by cases h; cases e⟩
instance : NN Bool := ⟨fun h e => by cases h; cases e⟩
instance {α : Type} [Py α] : NN (List α) := ⟨fun ⟨a, vs, h, _⟩ e => by rw [h] at e; cases e⟩
instance {α β : Type} [Py α] [Py β] : NN (α × β) := ⟨fun ⟨a, x, y, h, _⟩ e => by rw [h] at e; cases e⟩
instance {α : Type} [Py α] : NN (Dct α) := ⟨fun ⟨a, kvs, h, _⟩ e => by rw [h] at e; cases e⟩
section
variable {α β γ δ A ι κ S S' S2 R L : Type} [Py α] [Py β] [Py γ] [Py δ] [Py ι] {XP : XPost} {D D1 D2 : List Sl} {te ta tb tc td tl : TE} {tt tu : TT} {t ts tz tw : TS} {B : Option Addr} {O O0 : Ow} {G G1 G2 H : Hp} {σ : L2.St} {K : PySem.W.Frag} {g : TG} {wi : TI}
theorem EWT.valB {m : W Bool} (h : EW XP D te m) : EWT XP D (tB te) m := fun B O0 O G H σ Q fr s q => h fr s (m.mono (fun b k v G2 H2 e s2 r => ⟨b, r, k G2 H2 e s2⟩) (fun _ x => x) q)
theorem EWT.yes : EWT XP D tYes (W.pure true) := fun _ _ _ _ _ _ _ fr s q => q _ _ Ex.r s
theorem EW.ix0 {m : W (α × β)} (h : EW XP D te m) : EW XP D (tOp (rIx K) te (tC (.int 0))) (m.bind fun p => W.pure p.1) := EW.lift (C := fun t => tOp (rIx K) t (tC (.int 0))) h (fun _ _ _ _ => rfl) fun x v G B O σ r => .ofD (ev_op (cstD r) ev_int o2_ix0)
theorem EW.ix1 {m : W (α × β)} (h : EW XP D te m) : EW XP D (tOp (rIx K) te (tC (.int 1))) (m.bind fun p => W.pure p.2) := EW.lift (C := fun t => tOp (rIx K) t (tC (.int 1))) h (fun _ _ _ _ => rfl) fun x v G B O σ r => .ofD (ev_op (cstD r) ev_int o2_ix1)
theorem EW.ixS {m : W Str} {n : W Int} (h : EW XP D ta m) (h' : EW XP D tb n) : EW XP D (tOp (rIx K) ta tb) (m.bind fun z => n.bind fun i => W.chk (0 ≤ i ∧ z.length ≤ 1000000) ((W.get (z.cps.toList[i.toNat]?)).bind fun c => W.pure (⟨#[c]⟩ : Str))) := EW.lift2 (C := fun t u => tOp (rIx K) t u) (g := fun z i => W.chk (0 ≤ i ∧ z.length ≤ 1000000) ((W.get (z.cps.toList[i.toNat]?)).bind fun c => W.pure (⟨#[c]⟩ : Str))) h h' (fun _ _ _ _ _ => rfl) fun z i v w G B O σ r r' => .chk fun c G1 H1 e s Q E ⟨a, ea, q⟩ =>
  ev_op (cstD r) (cstD r') (o2_ixS c.1 ea c.2) G1 H1 e s Q fun v2 a2 G2 H2 p e2 s2 r2 => by subst p; exact q v2 G2 H2 e2 s2 r2
theorem w_isN [NN α] (x : Option α) (y : Option β) : Op2W (fun x y H Q => y = V.non ∧ Q (.bl (decide (x = V.non))) H) x y (W.chk (y = none) (W.pure x.isNone)) := .chk fun c B O G H v w s hv hw Q E q => by
  subst c
  refine ⟨hw, ?_⟩
  cases x with
  | none =>
    have hv : v = .non := hv
    subst hv
    exact q _ G H Ex.r s rfl
  | some a =>
    have : v ≠ .non := NN.nn (a := a) hv
    rw [decide_eq_false this]
    exact q _ G H Ex.r s rfl
theorem w_notN [NN α] (x : Option α) (y : Option β) : Op2W (fun x y H Q => y = V.non ∧ Q (.bl (!decide (x = V.non))) H) x y (W.chk (y = none) (W.pure x.isSome)) := .chk fun c B O G H v w s hv hw Q E q => by
  subst c
  refine ⟨hw, ?_⟩
  cases x with
  | none =>
    have hv : v = .non := hv
    subst hv
    exact q _ G H Ex.r s rfl
  | some a =>
    have : v ≠ .non := NN.nn (a := a) hv
    rw [decide_eq_false this]
    exact q _ G H Ex.r s rfl
theorem EW.isN [NN α] {m : W (Option α)} (h : EW XP D te m) : EW XP D (tOp (fun x y H Q => y = V.non ∧ Q (.bl (decide (x = V.non))) H) te (tC .non)) (m.bind fun x => W.pure x.isNone) := EW.lift (C := fun t => tOp (fun x y H Q => y = V.non ∧ Q (.bl (decide (x = V.non))) H) t (tC .non)) h (fun _ _ _ _ => rfl) fun x v G B O σ r => fun G1 H1 e s Q E q =>
  w_isN x (none : Option Int) B O G1 H1 v .non s (Py.up e r) rfl Q E ⟨rfl, q⟩
theorem EW.notN [NN α] {m : W (Option α)} (h : EW XP D te m) : EW XP D (tOp (fun x y H Q => y = V.non ∧ Q (.bl (!decide (x = V.non))) H) te (tC .non)) (m.bind fun x => W.pure x.isSome) := EW.lift (C := fun t => tOp (fun x y H Q => y = V.non ∧ Q (.bl (!decide (x = V.non))) H) t (tC .non)) h (fun _ _ _ _ => rfl) fun x v G B O σ r => fun G1 H1 e s Q E q =>
  w_notN x (none : Option Int) B O G1 H1 v .non s (Py.up e r) rfl Q E ⟨rfl, q⟩
/-- the value that is not None -/
theorem EW.unopt {m : W (Option α)} (h : EW (α := Option α) XP D te m) : EW XP D te (m.bind fun o => W.get o) := fun B O0 O G H σ Q fr s q => h fr s (m.mono (fun o ⟨a, e, k⟩ v G2 H2 e2 s2 r => by subst e; exact k v G2 H2 e2 s2 r) (fun _ x => x) q)
def AllFree (D : List Sl) : List Nat → Prop
  | [] => True
  | i :: ws => (∃ s, D[i]? = some s ∧ s.free = true) ∧ AllFree D ws
theorem AllFree.no : AllFree D [] := trivial
theorem AllFree.mk {i : Nat} {ws : List Nat} {s : Sl} (h : D[i]? = some s) (f : s.free = true) (r : AllFree D ws) : AllFree D (i :: ws) := ⟨⟨s, h, f⟩, r⟩
theorem AllFree.all : ∀ {ws : List Nat}, AllFree D ws → ∀ i ∈ ws, ∃ s, D[i]? = some s ∧ s.free = true
  | [], _, i, h => nomatch h
  | j :: ws, h, i, hi => by
    rcases List.mem_cons.mp hi with rfl | hi
    · exact h.1
    · exact AllFree.all h.2 i hi
theorem EWN.lcF {ws : List Nat} {m : W (List ι)} {f : ι → List Sl} {mt : ι → W Bool} {me : ι → W β} (hi : EWI XP0 D wi m) (hw : AllFree D ws) (hg : TgW g ws (forget D ws) f)
    (ht : ∀ x, EWT XP0 (f x) tt (mt x)) (he : ∀ x, EW XP0 (f x) te (me x)) : EWN XP0 D (tLc wi g tt te ws) (m.bind fun xs => W.chk (xs.length ≤ 1000000) (W.mapf mt me xs)) := EWN.lc hi hw.all hg ht he
theorem Rt.never {R : Type} {M : RM R} : Rt XP M D tNever W.stuck := fun _ _ _ _ _ _ _ fr s q => q.elim
theorem StW.drop {m : W α} (h : EW XP D te m) : StW XP D (tDrop te) m fun _ => D := fun _ _ _ _ _ _ _ fr s q => h fr s (m.mono (fun a k v G2 H2 e s2 r => k _ _ G2 H2 e (fr.up e) s2) (fun _ x => x) q)
theorem EWN.revL {m : W (List α)} (h : EW XP D te m) : EWN XP D (tRevL K te) (m.bind fun xs => W.pure xs.reverse) := EWN.lift (C := fun t => tRevL K t) h (fun _ _ _ _ => rfl) fun x v G B O σ r => .ofD (en_revL (cstD r))
theorem StW.setAt {i : Nat} {xs : List α} {n : W Int} {m : W α} (hi : D[i]? = some (own xs)) (h : EW XP D te m) (h' : EW XP D ta n) : StW XP D (tAsg te (gSub (tVar i) ta rSetL)) (m.bind fun a => n.bind fun j => (W.get (ixN xs.length j)).bind fun k => W.pure (xs.set k a)) fun ys => D.set i (own ys) := fun B O0 O G H σ Ds fr s q => by
  obtain ⟨p, ws, O1, O2, e1, e2, ra, z⟩ := fr.ownAt hi
  refine h fr s (m.mono (fun a k v G2 H2 e s2 r => ⟨.ref p, e2, h' (fr.up e) s2 (n.mono (fun j ⟨i', ei, k⟩ w G3 H3 e3 s3 rj => ?_) (PX.up e) k)⟩) (fun _ x => x) q)
  have ee := Ex.t e e3
  have s4 : Sx B ((p, .lst ws) :: (O1 ++ O2 ++ O0)) G3 H3 := by rw [e1] at s3; exact s3.perm mid_head
  refine ⟨p, ws, j, i', rfl, rj, s4.head.1, by rw [all2_len ra]; exact ei, k σ _ G3 _ ee (z G3 _ _ ee (all2_set _ (all2_up ee ra) (Py.up e3 r))) (s4.put.perm mid_new)⟩
theorem StW.extend {i : Nat} {xs : List α} {m : W (List α)} (hi : D[i]? = some (own xs)) (h : EWN XP D te m) : StW XP D (tDrop (tBM K "list" rExtend (tVar i) (tCons te tNil))) (m.bind fun a => W.chk (xs.length + a.length ≤ 1000000) (W.pure (xs ++ a))) fun ys => D.set i (own ys) := fun B O0 O G H σ Ds fr s q => by
  obtain ⟨p, ws, O1, O2, e1, e2, ra, z⟩ := fr.ownAt hi
  have hp : H p = some (.lst ws) := (s.own (p, .lst ws) (by rw [e1]; simp)).1
  refine ⟨.ref p, e2, .inl ⟨rfl, ws, SqL.of hp⟩, h fr s (m.mono (fun a ⟨c, k⟩ p2 us G2 H2 e s2 r => ?_) (fun _ x => x) q)⟩
  have hq := s2.head.1
  have s3 : Sx B ((p, .lst ws) :: (O1 ++ O2 ++ O0)) G2 H2 := by rw [e1] at s2; exact s2.drop.perm mid_head
  exact ⟨p, p2, ws, us, rfl, rfl, s3.head.1, hq, line_le (by rw [all2_len ra, all2_len r]; exact c), k σ _ G2 _ e (z G2 (ws ++ us) (xs ++ a) e (all2_app (all2_up e ra) r)) (s3.put.perm mid_new)⟩
/-! ### the older words of arguments -/
theorem to_b0 {vs : List V} {a : Unit} (h : (aB aN).rel B G vs a) : b0 B G vs () := let ⟨b, ws, e0, e, e1⟩ := h; ⟨b, e0, by rw [e, show ws = [] from e1]⟩
theorem to_b1 {vs : List V} {a : α × Unit} (h : (aB (aC (α := α) aN)).rel B G vs a) : b1 B G vs a.1 := let ⟨b, ws, e0, e, v, us, e1, rv, e2⟩ := h; ⟨b, v, e0, by rw [e, e1, show us = [] from e2], rv⟩
theorem to_b2 {vs : List V} {a : α × β × Unit} (h : (aB (aC (α := α) (aC (α := β) aN))).rel B G vs a) : b2 B G vs (a.1, a.2.1) := let ⟨b, ws, e0, e, v, us, e1, rv, w, xs, e2, rw, e3⟩ := h; ⟨b, v, w, e0, by rw [e, e1, e2, show xs = [] from e3], rv, rw⟩
theorem to_b3 {vs : List V} {a : α × β × γ × Unit} (h : (aB (aC (α := α) (aC (α := β) (aC (α := γ) aN)))).rel B G vs a) : b3 B G vs (a.1, a.2.1, a.2.2.1) := let ⟨b, ws, e0, e, v, us, e1, rv, w, xs, e2, rw, u, ys, e3, ru, e4⟩ := h; ⟨b, v, w, u, e0, by rw [e, e1, e2, e3, show ys = [] from e4], rv, rw, ru⟩
theorem to_a1 {vs : List V} {a : α × Unit} (h : (aC (α := α) aN).rel B G vs a) : a1 B G vs a.1 := let ⟨v, us, e1, rv, e2⟩ := h; ⟨v, by rw [e1, show us = [] from e2], rv⟩
theorem to_a2 {vs : List V} {a : α × β × Unit} (h : (aC (α := α) (aC (α := β) aN)).rel B G vs a) : a2 B G vs (a.1, a.2.1) := let ⟨v, us, e1, rv, w, xs, e2, rw, e3⟩ := h; ⟨v, w, by rw [e1, e2, show xs = [] from e3], rv, rw⟩
theorem to_a3 {vs : List V} {a : α × β × γ × Unit} (h : (aC (α := α) (aC (α := β) (aC (α := γ) aN))).rel B G vs a) : a3 B G vs (a.1, a.2.1, a.2.2.1) := let ⟨v, us, e1, rv, w, xs, e2, rw, u, ys, e3, ru, e4⟩ := h; ⟨v, w, u, by rw [e1, e2, e3, show ys = [] from e4], rv, rw, ru⟩
end
end Dk

set_option Elab.async false
set_option linter.all false
set_option maxRecDepth 100000
set_option maxHeartbeats 1000000
namespace Dk
open PySem PySem.Spec PyProof.Rows L2
open Evl (Ex)
open Py (rp)
open PyD (pic)
section
variable {α β γ δ A ι κ S S' S2 R L : Type} [Py α] [Py β] [Py γ] [Py δ] [Py ι] {XP : XPost} {D D1 D2 : List Sl} {te ta tb tc td tl : TE} {tt tu : TT} {t ts tz tw : TS} {B : Option Addr} {O O0 : Ow} {G G1 G2 H : Hp} {σ : L2.St} {K : PySem.W.Frag} {g : TG} {wi : TI}
abbrev ovn {α : Type} (p : PO α) (a : α) : Sl := .ov p a
/-- an expression whose value's lists are one's own -/
def EWF {α : Type} (XP : XPost) (p : PO α) (D : List Sl) (te : TE) (m : W α) : Prop :=
  ∀ ⦃B : Option Addr⦄ ⦃O0 O : Ow⦄ ⦃G H : Hp⦄ ⦃σ : L2.St⦄ ⦃Q : VK⦄, Fr B G D σ O → Sx B (O ++ O0) G H → m.run (fun a => ∀ v o G2 H2, Ex G G2 → Sx B (o ++ (O ++ O0)) G2 H2 → p.rp G2 v a o → Q v H2) (PX XP B O0 G) → te σ H Q
theorem EWF.ofN {m : W (List α)} (h : EWN XP D te m) : EWF XP (PO.list (PO.st (α := α))) D te m := fun B O0 O G H σ Q fr s q => h fr s (m.mono (fun xs k p ws G2 H2 e s2 r => k (.ref p) [(p, .lst ws)] G2 H2 e s2 ⟨p, ws, [], rfl, rfl, .of r⟩) (fun _ x => x) q)
theorem EWF.ofS {m : W α} (h : EW XP D te m) : EWF XP (PO.st (α := α)) D te m := fun B O0 O G H σ Q fr s q => h fr s (m.mono (fun a k v G2 H2 e s2 r => k v [] G2 H2 e s2 ⟨rfl, r⟩) (fun _ x => x) q)
theorem EWF.pair {α β : Type} {p : PO α} {q : PO β} {m : W α} {n : W β} (h : EWF XP0 p D ta m) (h' : EWF XP0 q D tb n) : EWF XP0 (PO.pair p q) D (tTup (tCons ta (tCons tb tNil))) (m.bind fun a => n.bind fun b => W.pure (a, b)) := fun B O0 O G H σ Q fr s z =>
  h fr s (m.mono (fun a k v o G2 H2 e s2 r => h' (fr.up e) (O0 := o ++ O0) (s2.perm (by rw [← List.append_assoc]; exact app_swap)) (n.mono (fun b k2 w o2 G3 H3 e3 s3 r3 => ⟨line_le (by show 2 ≤ 1000000; decide), fun t ht => by
    have s4 : Sx B ((o ++ o2) ++ (O ++ O0)) G3 H3 := s3.perm ((List.Perm.append_left o2 (by rw [← List.append_assoc]; exact app_swap)).trans (l₂ := o2 ++ (o ++ (O ++ O0))) (by rw [List.append_assoc o o2, ← List.append_assoc]; exact app_swap))
    exact k2 (.ref t) (o ++ o2) _ _ (Ex.t e (Ex.t e3 (s4.grow ht))) (s4.still ht) ⟨t, v, w, o, o2, rfl, upd_same, rfl, p.up (Ex.t e3 (s4.grow ht)) r, q.up (s4.grow ht) r3⟩⟩) px0_any k)) (fun _ x => x) z)
theorem PoL.snoc {α : Type} {p : PO α} {vs : List V} {xs : List α} {o r : Ow} {v : V} {x : α} (h : PoL p G vs xs o) (k : p.rp G v x r) : PoL p G (vs ++ [v]) (xs ++ [x]) (o ++ r) := by
  induction h with
  | nil => have := PoL.cons k .nil; simpa using this
  | @cons _ _ a _ _ b c _ ih =>
    have := PoL.cons c ih
    rw [← List.append_assoc] at this
    exact this
theorem EWF.lc {α : Type} {p : PO α} {ws : List Nat} {m : W (List ι)} {f : ι → List Sl} {mt : ι → W Bool} {me : ι → W α} (hi : EWI XP0 D wi m) (hw : AllFree D ws) (hg : TgW g ws (forget D ws) f)
    (ht : ∀ x, EWT XP0 (f x) tt (mt x)) (he : ∀ x, EWF XP0 p (f x) te (me x)) : EWF XP0 (PO.list p) D (tLc wi g tt te ws) (m.bind fun xs => W.chk (xs.length ≤ 1000000) (W.mapf mt me xs)) := fun B O0 O G H σ Q fr s q =>
  hi fr s (m.mono (fun xs ⟨c, k⟩ J G1 H1 e1 s1 hJ Dl hD => by
    let Post : List α → Prop := fun ys => ∀ v o G2 H2, Ex G G2 → Sx B (o ++ (O ++ O0)) G2 H2 → (PO.list p).rp G2 v ys o → Q v H2
    let Wv : Nat → Hp → Prop := fun i H => i ≤ xs.length ∧ ∃ G2 acc ys r, Ex G1 G2 ∧ Sx B ((Dl, .lst acc) :: (r ++ (O ++ O0))) G2 H ∧ PoL p G2 acc ys r ∧ ys.length ≤ i ∧ (W.mapf mt me (xs.drop i)).run (fun zs => Post (ys ++ zs)) (PX XP0 B O0 G)
    refine ⟨fun i m H => m = xs.length - i ∧ Wv i H, ⟨xs.length, by simp, Nat.zero_le _, G1, [], [], [], Ex.r, s1.mine hD, .nil, Nat.le_refl _, k⟩, ?_⟩
    rintro i m H2 ⟨rfl, hi, G2, acc, ys, r, e2, s2, r2, hl, k2⟩
    have ok := hJ i _ G2 H2 e2 s2
    have into : ∀ {x : Addr × HO} {r : Ow}, (x :: (r ++ (O ++ O0))).Perm (O ++ (x :: (r ++ O0))) := fun {x r} => (List.Perm.cons x (by rw [← List.append_assoc]; exact app_swap)).trans acc_in
    by_cases hlt : i < xs.length
    · have hx : xs[i]? = some xs[i] := List.getElem?_eq_getElem hlt
      refine .inr ⟨(ok.1 _ hx).1, Wv (i + 1), fun H' w' => ⟨xs.length - (i + 1), by omega, rfl, w'⟩, fun v H3 hv => ?_⟩
      obtain ⟨G3, e3, s3, rv⟩ := (ok.1 _ hx).2 v H3 hv
      rw [List.drop_eq_getElem_cons hlt] at k2
      have e03 : Ex G G3 := Ex.t e1 (Ex.t e2 e3)
      have s3' : Sx B (O ++ ((Dl, .lst acc) :: (r ++ O0))) G3 H3 := s3.perm into
      refine hg ((fr.up e03).forget hw.all) s3' rv fun σ' fr' hwp => ⟨by rw [hwp, wipe_idem], ?_⟩
      refine ht _ fr' s3' ((mt xs[i]).mono (fun b kb G4 H4 e4 s4 => ?_) px0_any k2)
      cases b with
      | false =>
        rw [if_neg Bool.false_ne_true]
        exact ⟨hlt, G4, acc, ys, r, Ex.t e2 (Ex.t e3 e4), s4.perm into.symm, r2.up (Ex.t e3 e4), by omega, kb⟩
      | true =>
        rw [if_pos rfl]
        refine he _ (fr'.up e4) s4 ((me xs[i]).mono (fun y ky v5 o5 G5 H5 e5 s5 r5 => ?_) px0_any kb)
        have s6 : Sx B ((Dl, .lst acc) :: ((r ++ o5) ++ (O ++ O0))) G5 H5 := s5.perm (by
          refine (List.Perm.append_left o5 into.symm).trans ?_
          refine acc_in.symm.trans (List.Perm.cons _ ?_)
          rw [List.append_assoc r o5, ← List.append_assoc]
          exact app_swap)
        have al := r2.len
        refine ⟨acc, s6.head.1, line_lt (by omega), hlt, G5, acc ++ [v5], ys ++ [y], r ++ o5, Ex.t e2 (Ex.t e3 (Ex.t e4 e5)), s6.put, (r2.up (Ex.t e3 (Ex.t e4 e5))).snoc r5, by rw [List.length_append, List.length_singleton]; omega, ?_⟩
        refine (W.mapf mt me (xs.drop (i + 1))).mono (fun zs hz => ?_) (fun _ x => x) ky
        show Post (ys ++ [y] ++ zs)
        rw [List.append_assoc]
        exact hz
    · have ei : i = xs.length := by omega
      refine .inl ⟨ok.2 ei, ?_⟩
      rw [ei, List.drop_length] at k2
      have k3 : Post (ys ++ []) := k2
      rw [List.append_nil] at k3
      exact k3 (.ref Dl) ((Dl, .lst acc) :: r) G2 H2 (Ex.t e1 e2) s2 ⟨Dl, acc, r, rfl, rfl, r2⟩) (fun _ x => x) q)
def rmF {α : Type} (p : PO α) : RM α := fun B O0 G a Q => ∀ v o G2 H2, Ex G G2 → Sx B (o ++ O0) G2 H2 → p.rp G2 v a o → Q v H2
theorem Rt.newF {α : Type} {p : PO α} {m : W α} (h : EWF XP p D te m) : Rt XP (rmF p) D (tRet te) m := fun B O0 O G H σ Ds fr s q => h fr s (m.mono (fun a k v o G2 H2 e s2 r => k G2 e v o G2 H2 Ex.r (s2.sub ((List.Sublist.refl o).append (List.sublist_append_right _ _))) r) (fun _ x => x) q)
theorem Fr.ovAt {α : Type} {p : PO α} {i : Nat} {a : α} (fr : Fr B G D σ O) (hi : D[i]? = some (.ov p a)) : ∃ O1 o O2 u, O = O1 ++ o ++ O2 ∧ σ[i]? = some (some u) ∧ p.rp G u a o ∧
    ∀ G' s' v' o', Ex G G' → SlOk B G' s' v' o' → Fr B G' (D.set i s') (σ.set i v') (O1 ++ o' ++ O2) := by
  obtain ⟨O1, o, O2, v, e1, e2, ⟨u, e3, e4⟩, z⟩ := fr.focus hi
  exact ⟨O1, o, O2, u, e1, by rw [e2, e3], e4, z⟩
theorem Rt.ownF {α : Type} {p : PO α} {i : Nat} {a : α} (h : D[i]? = some (.ov p a)) : Rt XP (rmF p) D (tRet (tVar i)) (W.pure a) := fun B O0 O G H σ Ds fr s q => by
  obtain ⟨O1, o, O2, u, e1, e2, r, _⟩ := fr.ovAt h
  refine ⟨u, e2, q G Ex.r u o G H Ex.r (s.sub ?_) r⟩
  rw [e1]
  refine List.Sublist.append ?_ (.refl _)
  exact (List.sublist_append_right O1 o).trans (List.sublist_append_left _ _)
theorem ov_in {o O1 o' O2 : Ow} : (o' ++ (O1 ++ [] ++ O2 ++ O0)).Perm (O1 ++ o' ++ O2 ++ O0) := by
  simp only [List.append_nil, List.append_assoc]
  rw [← List.append_assoc, ← List.append_assoc (as := O1)]
  exact List.Perm.append_right _ List.perm_append_comm
theorem StW.setF {α : Type} {p : PO α} {i : Nat} {s : Sl} {m : W α} (h : EWF XP p D te m) (hi : D[i]? = some s) : StW XP D (tAsg te (gName i)) m fun a => D.set i (.ov p a) := fun B O0 O G H σ Ds fr sx q => h fr sx (m.mono (fun a k v o' G2 H2 e s2 r => by
  obtain ⟨O1, o, O2, w, e1, e2, e3, z⟩ := (fr.up e).focus hi
  have f := z G2 (.ov p a) (some v) o' Ex.r ⟨v, rfl, r⟩
  refine k _ _ G2 H2 e f ((s2.sub ?_).perm (ov_in (o := o)))
  rw [e1]
  exact (List.Sublist.refl o').append mid_out) (fun _ x => x) q)
/-! ### promises -/
def SpF' {γ : Type} (p : PO γ) (XE : XK → XPost) (ar : AR A) (m : A → W γ) : Sp := fun vs H Q E => ∃ B O G a, Sx B O G H ∧ ar.rel B G vs a ∧ (m a).run (fun x => ∀ v o G2 H2, Ex G G2 → Sx B (o ++ O) G2 H2 → p.rp G2 v x o → Q v H2) (PX (XE E) B O G)
theorem EWF.call {γ : Type} {p : PO γ} {ta : TA} {ar : AR A} {ma : W A} {m : A → W γ} {E : XK} (h : EWA XP0 D ta ar ma) : EWF XP0 p D (tCall (SpF' p XE0 ar m) [] E ta) (ma.bind m) := fun B O0 O G H σ Q fr s q =>
  h fr s (ma.mono (fun a k vs G2 H2 e s2 r => ⟨B, O ++ O0, G2, a, s2, by rw [List.append_nil]; exact r, (m a).mono (fun x k2 v o G3 H3 e3 => k2 v o G3 H3 (Ex.t e e3)) (fun x hx => (PX0 x hx).elim) k⟩) (fun _ x => x) q)
/-! ### lent, and back -/
def delL (G : Hp) (o : Ow) : Hp := fun a => if a ∈ o.map (·.1) then none else G a
theorem delL_out {o : Ow} {a : Addr} (h : a ∉ o.map (·.1)) : delL G o a = G a := if_neg h
theorem delL_in {o : Ow} {a : Addr} (h : a ∈ o.map (·.1)) : delL G o a = none := if_pos h
/-- all of o is one's own again -/
theorem Sx.thawL {R o : Ow} (s : Sx none R G H) (f : ∀ q ∈ o, G q.1 = some q.2) (nd : (o.map (·.1)).Nodup) : Sx none (o ++ R) (delL G o) H := by
  refine ⟨fun a u e => ?_, fun q hq => ?_, ?_, fun b e => nomatch e⟩
  · by_cases ha : a ∈ o.map (·.1)
    · rw [delL_in ha] at e; cases e
    · rw [delL_out ha] at e; exact s.ex a u e
  · rcases List.mem_append.mp hq with hq | hq
    · exact ⟨s.ex _ _ (f q hq), delL_in (List.mem_map_of_mem hq)⟩
    · refine ⟨(s.own q hq).1, ?_⟩
      by_cases ha : q.1 ∈ o.map (·.1)
      · exact delL_in ha
      · rw [delL_out ha]; exact (s.own q hq).2
  · rw [List.map_append, List.nodup_append]
    refine ⟨nd, s.nd, fun a ha b hb e => ?_⟩
    subst e
    obtain ⟨x, hx, ex⟩ := List.mem_map.mp ha
    obtain ⟨y, hy, ey⟩ := List.mem_map.mp hb
    have h1 := f x hx
    have h2 := (s.own y hy).2
    rw [ex, ← ey, h2] at h1
    cases h1
theorem firm_delL {γ : Type} [Py γ] [Firm γ] {o : Ow} {v : V} {x : γ} (hl : ∀ q ∈ o, ∃ ws, q.2 = .lst ws) (f : ∀ q ∈ o, G q.1 = some q.2) (r : rp G v x) : rp (delL G o) v x := by
  induction o generalizing G with
  | nil =>
    have : delL G [] = G := funext fun a => delL_out (by simp)
    rw [this]; exact r
  | cons q o ih =>
    obtain ⟨ws, hq⟩ := hl q (List.mem_cons_self ..)
    have g1 : G q.1 = some (.lst ws) := by rw [f q (List.mem_cons_self ..), hq]
    by_cases hm : q.1 ∈ o.map (·.1)
    · have : delL G (q :: o) = delL G o := funext fun a => by
        unfold delL
        have : a ∈ (q :: o).map (·.1) ↔ a ∈ o.map (·.1) := ⟨fun h => by
          rw [List.map_cons] at h
          rcases List.mem_cons.mp h with rfl | h
          · exact hm
          · exact h, fun h => List.mem_cons_of_mem _ h⟩
        simp only [this]
      rw [this]
      exact ih (fun q hq => hl q (List.mem_cons_of_mem _ hq)) (fun q hq => f q (List.mem_cons_of_mem _ hq)) r
    · have r1 := Firm.keep (G := G) g1 r
      have : delL G (q :: o) = delL (del G q.1) o := funext fun a => by
        unfold delL del
        rw [List.map_cons]
        by_cases h1 : a ∈ o.map (·.1)
        · rw [if_pos h1, if_pos (List.mem_cons_of_mem _ h1)]
        · rw [if_neg h1]
          by_cases h2 : a = q.1
          · rw [if_pos (by rw [h2]; exact List.mem_cons_self ..), if_pos h2]
          · rw [if_neg (fun h => (List.mem_cons.mp h).elim h2 h1), if_neg h2]
      rw [this]
      refine ih (fun q hq => hl q (List.mem_cons_of_mem _ hq)) (fun q' hq' => ?_) r1
      rw [del_ne (fun e => hm (by rw [← e]; exact List.mem_map_of_mem hq'))]
      exact f q' (List.mem_cons_of_mem _ hq')
theorem Sx.lentL {o R : Ow} (s : Sx B (o ++ R) G H) : ∃ x : Ow, Sx none (x ++ R) (updL G o) H ∧ Ex G (updL G o) ∧ (∀ q ∈ o, updL G o q.1 = some q.2) ∧ ∀ (y : Ow) G2 H2, Ex (updL G o) G2 → Sx none (x ++ (y ++ R)) G2 H2 → Sx B (o ++ (y ++ R)) (delL G2 o) H2 ∧ Ex G (delL G2 o) := by
  have gn : ∀ q ∈ o, G q.1 = none := fun q hq => (s.own q (List.mem_append_left _ hq)).2
  have nd : (o.map (·.1)).Nodup := by
    have := s.nd
    rw [List.map_append, List.nodup_append] at this
    exact this.1
  have exd : ∀ {G2 : Hp}, Ex (updL G o) G2 → Ex G (delL G2 o) := fun {G2} e a u h => by
    have : a ∉ o.map (·.1) := fun hm => by
      obtain ⟨q, hq, eq⟩ := List.mem_map.mp hm
      rw [← eq, gn q hq] at h
      cases h
    rw [delL_out this]
    exact e a u ((Sx.freezeL s).2.1 a u h)
  cases B with
  | none =>
    obtain ⟨f1, f2, f3⟩ := s.freezeL
    exact ⟨[], f1, f2, f3, fun y G2 H2 e s2 => ⟨s2.thawL (fun q hq => e _ _ (f3 q hq)) nd, exd e⟩⟩
  | some b =>
    obtain ⟨z0, z1, z2, c, cells, hz, hc, s1⟩ := s.bagOwn
    have s1' : Sx none (o ++ ((b, .lst [.int z0, .int z1, .int z2, .ref c]) :: R)) G H := s1.perm acc_in
    obtain ⟨f1, f2, f3⟩ := s1'.freezeL
    refine ⟨[(b, .lst [.int z0, .int z1, .int z2, .ref c])], f1, f2, f3, fun y G2 H2 e s2 => ?_⟩
    have s3 : Sx none (o ++ ((b, .lst [.int z0, .int z1, .int z2, .ref c]) :: (y ++ R))) (delL G2 o) H2 := s2.thawL (fun q hq => e _ _ (f3 q hq)) nd
    exact ⟨(s3.perm acc_in.symm).bagBack hz (cells := cells) (exd e c _ hc), exd e⟩
theorem set_same {σ : L2.St} {i : Nat} {v : Option V} (h : σ[i]? = some v) : σ.set i v = σ := by
  refine List.ext_getElem? fun j => ?_
  rw [List.getElem?_set]
  by_cases hj : i = j
  · subst hj
    rw [if_pos rfl, h, if_pos (List.getElem?_eq_some_iff.mp h).1]
  · rw [if_neg hj]
theorem ov_out {O1 o O2 : Ow} : (O1 ++ o ++ O2 ++ O0).Perm (o ++ (O1 ++ O2 ++ O0)) := by
  simp only [List.append_assoc]
  rw [← List.append_assoc, ← List.append_assoc (as := o)]
  exact List.Perm.append_right _ List.perm_append_comm
theorem EW.lendF {α : Type} {p : PO α} [Firm γ] {i : Nat} {x : α} {m : W γ} (hi : D[i]? = some (.ov p x)) (h : ∀ XP, EW XP (unbag (D.set i (.st p.py x))) te m) : EW XP D te m := fun B O0 O G H σ Q fr s q => by
  obtain ⟨O1, o, O2, u, e1, e2, ra, z⟩ := fr.ovAt hi
  subst e1
  obtain ⟨y, sL, eL, fL, back⟩ := (s.perm ov_out).lentL
  have f := (z (updL G o) (.st p.py x) (some u) [] eL ⟨rfl, u, rfl, p.frz eL fL ra⟩).unbag
  rw [set_same e2] at f
  refine h (fun _ _ _ e => PX XP B O0 G e) f (sL.perm lend_in) (m.mono (fun a k v G2 H2 e s2 r => ?_) (fun e he G1 _ => he) q)
  obtain ⟨s3, e5⟩ := back [] G2 H2 e (s2.perm lend_in.symm)
  exact k v _ H2 e5 (s3.perm ov_out.symm) (firm_delL (p.lists ra) (fun q hq => e _ _ (fL q hq)) r)
theorem EWT.lendF {α : Type} {p : PO α} {i : Nat} {x : α} {m : W Bool} (hi : D[i]? = some (.ov p x)) (h : ∀ XP, EWT XP (unbag (D.set i (.st p.py x))) tt m) : EWT XP D tt m := fun B O0 O G H σ Q fr s q => by
  obtain ⟨O1, o, O2, u, e1, e2, ra, z⟩ := fr.ovAt hi
  subst e1
  obtain ⟨y, sL, eL, fL, back⟩ := (s.perm ov_out).lentL
  have f := (z (updL G o) (.st p.py x) (some u) [] eL ⟨rfl, u, rfl, p.frz eL fL ra⟩).unbag
  rw [set_same e2] at f
  refine h (fun _ _ _ e => PX XP B O0 G e) f (sL.perm lend_in) (m.mono (fun a k G2 H2 e s2 => ?_) (fun e he G1 _ => he) q)
  obtain ⟨s3, e5⟩ := back [] G2 H2 e (s2.perm lend_in.symm)
  exact k _ H2 e5 (s3.perm ov_out.symm)
theorem EW.stillF {α : Type} {p : PO α} {m : W α} (h : EWF XP p D te m) : @EW α p.py XP D te m := fun B O0 O G H σ Q fr s q => h fr s (m.mono (fun a k v o G2 H2 e s2 r => by
  obtain ⟨f1, f2, f3⟩ := s2.freezeL
  exact k v _ H2 (Ex.t e f2) f1 (p.frz f2 f3 r)) (fun _ x => x) q)
theorem EW.junk {m : W α} (h : EW XP D te m) : EW (α := Junk) XP D te (m.bind fun _ => W.pure ⟨⟩) := fun B O0 O G H σ Q fr s q => h fr s (m.mono (fun a k v G2 H2 e s2 r => k v G2 H2 e s2 trivial) (fun _ x => x) q)
/-! ### a list whose items are one's own, walked; its items are changed -/
def TgF {α : Type} (g : TG) (p : PO α) (D : List Sl) (f : α → List Sl) : Prop :=
  ∀ ⦃B : Option Addr⦄ ⦃O0 O o : Ow⦄ ⦃G H : Hp⦄ ⦃σ : L2.St⦄ ⦃v : V⦄ ⦃x : α⦄ ⦃Q : L2.St → Hp → Prop⦄, Fr B G D σ O → Sx B (o ++ (O ++ O0)) G H → p.rp G v x o → (∀ σ' O', Fr B G (f x) σ' O' → Sx B (O' ++ O0) G H → Q σ' H) → g v σ H Q
theorem Fr.putO (h : Fr B G D σ O) {i : Nat} {s s' : Sl} {v : Option V} {o : Ow} (hi : D[i]? = some s) (f : s.free = true) (k : SlOk B G s' v o) (sx : Sx B (o ++ (O ++ O0)) G H) : ∃ O', Fr B G (D.set i s') (σ.set i v) O' ∧ Sx B (O' ++ O0) G H := by
  obtain ⟨O1, o1, O2, w, e1, e2, e3, z⟩ := h.focus hi
  have := e3.free f
  subst this
  subst e1
  exact ⟨_, z G s' v o Ex.r k, sx.perm (ov_in (o := []))⟩
theorem TgF.name {α : Type} {p : PO α} {i : Nat} {s : Sl} (hi : D[i]? = some s) (hf : s.free = true) : TgF (gName i) p D fun x => D.set i (.ov p x) := fun B O0 O o G H σ v x Q fr sx r k => by
  obtain ⟨O', f, s2⟩ := fr.putO hi hf (s' := .ov p x) (v := some v) ⟨v, rfl, r⟩ sx
  exact k _ O' f s2
theorem TgF.own {i : Nat} {s : Sl} (hi : D[i]? = some s) (hf : s.free = true) : TgF (gName i) (PO.list (PO.st (α := α))) D fun x => D.set i (Dk.own x) := fun B O0 O o G H σ v x Q fr sx ⟨l, ws, r, h1, h2, h3⟩ k => by
  obtain ⟨h4, h5⟩ := h3.to
  subst h5
  obtain ⟨O', f, s2⟩ := fr.putO hi hf (s' := Dk.own x) (v := some v) ⟨l, ws, by rw [h1], h2, h4⟩ sx
  exact k _ O' f s2
theorem TgF.st {i : Nat} {s : Sl} (hi : D[i]? = some s) (hf : s.free = true) : TgF (gName i) (PO.st (α := α)) D fun x => D.set i (stv x) := fun B O0 O o G H σ v x Q fr sx ⟨h1, h2⟩ k => by
  subst h1
  obtain ⟨O', f, s2⟩ := fr.putO hi hf (s' := stv x) (v := some v) (o := []) ⟨rfl, v, rfl, h2⟩ sx
  exact k _ O' f s2
theorem TgF.pair {α β : Type} {p : PO α} {q : PO β} {g1 g2 : TG} {f1 : α → List Sl} {f2 : α → β → List Sl} (h1 : TgF g1 p D f1) (h2 : ∀ a, TgF g2 q (f1 a) (f2 a)) : TgF (gTup K 2 (gCons g1 (gCons g2 gNil))) (PO.pair p q) D fun x => f2 x.1 x.2 := fun B O0 O o G H σ v x Q fr sx ⟨t, y, z, o1, o2, e1, e2, e3, r1, r2⟩ k => by
  subst e3
  refine ⟨t, [y, z], e1, SqT.of (sx.ex t _ e2), rfl, y, [z], rfl, h1 (O0 := o2 ++ O0) (o := o1) fr (sx.perm ?_) r1 fun σ1 O1 fr1 s1 => ⟨z, [], rfl, h2 x.1 (o := o2) fr1 (s1.perm (by rw [← List.append_assoc]; exact app_swap)) r2 fun σ2 O2 fr2 s2 => ⟨rfl, k σ2 O2 fr2 s2⟩⟩⟩
  rw [List.append_assoc]
  refine List.Perm.append_left o1 ?_
  rw [← List.append_assoc]
  exact app_swap
theorem PoL.split {α : Type} {p : PO α} {v : V} {x : α} {vs : List V} {xs : List α} {o : Ow} (h : PoL p G (v :: vs) (x :: xs) o) : ∃ o1 o2, o = o1 ++ o2 ∧ p.rp G v x o1 ∧ PoL p G vs xs o2 := by
  cases h with
  | cons a b => exact ⟨_, _, rfl, a, b⟩
theorem StW.forO {κ : Type} {p : PO κ} {i : Nat} {xs : List κ} {Dh : Addr → List V → S → List Sl} {D' : S → List Sl} {f : Addr → List V → S → κ → List Sl} {b : κ → S → W S} {s0 : S} (hi : D[i]? = some (.ov (PO.list p) xs)) (w0 : ∀ l ws, Wk (D.set i (.ov (PO.at l ws) ())) (Dh l ws s0))
    (hj : ∀ l ws s, (Dh l ws s)[i]? = some (.ov (PO.at l ws) ())) (hg : ∀ l ws s, TgF g p (Dh l ws s) (f l ws s)) (hb : ∀ l ws s x, StW XP0 (f l ws s x) ts (b x s) (Dh l ws)) (w1 : ∀ l ws s, ws.length = xs.length → Wk (Dh l ws s) (D' s)) :
    StW XP0 D (tFor (iList K (tVar i)) g ts) (W.fold b xs s0) D' := fun B O0 O G H σ Ds fr sx q => by
  obtain ⟨O1, o, O2, u, e1, e2, ⟨l, ws, r, h1, h2, h3⟩, z⟩ := fr.ovAt hi
  subst h1; subst h2; subst e1
  have hl : H l = some (.lst ws) := (sx.own (l, .lst ws) (by simp)).1
  have wl := h3.len
  have f0 := z G (.ov (PO.at l ws) ()) (some (.ref l)) [(l, .lst ws)] Ex.r ⟨.ref l, rfl, rfl, rfl⟩
  rw [set_same e2] at f0
  have s0' : Sx B ((O1 ++ [(l, .lst ws)] ++ O2) ++ (r ++ O0)) G H := sx.perm (by
    simp only [List.append_assoc, List.cons_append, List.nil_append]
    refine List.Perm.append_left O1 (List.Perm.cons _ ?_)
    rw [← List.append_assoc]
    exact app_swap)
  obtain ⟨G0, O3, e3, f3, s3⟩ := (w0 l ws).go f0 s0'
  refine ⟨.ref l, e2, l, rfl, ⟨ws, SqL.of hl⟩, ?_⟩
  let Wv : Nat → L2.St → Hp → Prop := fun i σ H => i ≤ xs.length ∧ ∃ s G2 O4 r4, Ex G G2 ∧ Fr B G2 (Dh l ws s) σ O4 ∧ Sx B (O4 ++ (r4 ++ O0)) G2 H ∧ PoL p G2 (ws.drop i) (xs.drop i) r4 ∧ (W.fold b (xs.drop i) s).run (PW XP0 B O0 G D' Ds.nx) (PX XP0 B O0 G)
  refine ⟨fun i m σ H => m = xs.length - i ∧ Wv i σ H, ⟨xs.length, by simp, Nat.zero_le _, s0, G0, O3, r, e3, f3, s3, h3.up e3, q⟩, ?_⟩
  rintro j m σ2 H2 ⟨rfl, hjl, s, G2, O4, r4, e4, f4, s4, p4, k2⟩
  have hl2 : H2 l = some (.lst ws) := by
    obtain ⟨P1, o', P2, u', g1, g2, ⟨g3, g4⟩, _⟩ := f4.ovAt (hj l ws s)
    refine (s4.own (l, .lst ws) ?_).1
    rw [g1, g4]
    simp
  have sq : SqL K H2 l ws := SqL.of hl2
  by_cases hlt : j < xs.length
  · have hwl : j < ws.length := by omega
    have hx : ws[j]? = some ws[j] := List.getElem?_eq_getElem hwl
    refine .inr ⟨⟨ws, ws[j], sq, hx⟩, Wv (j + 1), fun σ' H' w' => ⟨xs.length - (j + 1), by omega, rfl, w'⟩, fun v H4 hv => ?_⟩
    obtain ⟨rfl, hv⟩ := hv
    have hv := hv ws sq
    rw [hx] at hv
    cases hv
    rw [List.drop_eq_getElem_cons hlt, List.drop_eq_getElem_cons hwl] at p4
    obtain ⟨o1, o2, ro, rp1, p5⟩ := p4.split
    subst ro
    rw [List.drop_eq_getElem_cons hlt] at k2
    refine hg l ws s (O0 := o2 ++ O0) f4 (s4.perm ?_) rp1 fun σ' O' f' s' => hb l ws s _ f' s' ((b xs[j] s).mono (fun s5 ks σ6 O6 G6 H6 e6 f6 s6 => ⟨hlt, s5, G6, O6, o2, Ex.t e4 e6, f6, s6, p5.up e6, ks⟩) px0_any k2)
    rw [List.append_assoc o1, ← List.append_assoc]
    exact app_swap
  · have ej : j = xs.length := by omega
    rw [ej, List.drop_length] at k2
    refine .inl ⟨⟨ws, sq, by omega⟩, ?_⟩
    obtain ⟨G5, O5, e5, f5, s5⟩ := (w1 l ws s wl).go f4 s4
    exact k2 σ2 O5 G5 H2 (Ex.t e4 e5) f5 (s5.sub ((List.Sublist.refl O5).append (List.sublist_append_right _ _)))
end
section
variable {α A R : Type} {P : Program} {w : World} {K : PySem.W.Frag} {mg : Str → Option Value} {base : Heap} {k : Nat} {f : Addr} {fd : FuncData} {N ps : List Str} {x qual : Str} {st : Stmt}
theorem okP {p : PO α} {ar : AR A} {n : Nat} {Da : A → List Sl} {m : A → W α} (F : Fun K x qual st f fd) (S : FnScope N ps (defScope st)) (L : ArFr ar n Da) (hn : ps.length = n)
    (body : ∀ (cdv : Value) (A' : Around) (outer : List Env) (s : Shared) (H : Hp) (E : XK), (cxOf CX0 P w K mg base N qual (defScope st) f cdv A' outer s H E).nox.A.guards = some [] →
      Room k (cxOf CX0 P w K mg base N qual (defScope st) f cdv A' outer s H E).nox.A →
      ∃ t, PSs (cxOf CX0 P w K mg base N qual (defScope st) f cdv A' outer s H E).nox (defBody st) t ∧ ∀ a, StR XP0 (rmF p) (Da a ++ List.replicate (N.length - n) .any) t (m a)) :
    FnG P w K mg base CX0 (k + 1) f fd ps (SpF' p XE0 ar m) :=
  okN F S (fun vs H Q E ⟨B, O, G, a, s, r, q⟩ => by rw [L.len r, hn]) fun cdv A' outer s H vs Q E gd room ⟨B, O, G, a, sx, r, q⟩ => by
    obtain ⟨t, ht, hb⟩ := body cdv A' outer s H E gd room
    exact ⟨t, ht, hb a (frStart L r) (O := []) sx (fun _ _ z => z) ((m a).mono (fun r k G1 e v o G2 H2 e2 s2 rr => k v o G2 H2 (Ex.t e e2) s2 rr) (fun e he => he) q)⟩
end
end Dk

set_option Elab.async false
set_option linter.all false
set_option maxRecDepth 100000
set_option maxHeartbeats 1000000
namespace Dk
open PySem PySem.Spec PyProof.Rows L2
/-! ### what holds of every answer, where no error comes -/
namespace W
variable {α β ι S R L : Type}
def Ok (m : W α) (P : α → Prop) : Prop := m.run P fun _ => False
theorem Ok.mono {m : W α} {P R : α → Prop} (h : Ok m P) (i : ∀ a, P a → R a) : Ok m R := m.mono i (fun _ x => x) h
theorem ok_pure {a : α} {P : α → Prop} : Ok (pure a) P ↔ P a := Iff.rfl
theorem ok_bind {m : W α} {f : α → W β} {P : β → Prop} : Ok (bind m f) P ↔ Ok m fun a => Ok (f a) P := Iff.rfl
theorem ok_chk {c : Prop} {m : W α} {P : α → Prop} : Ok (chk c m) P ↔ c ∧ Ok m P := Iff.rfl
theorem ok_pick {p P : α → Prop} : Ok (pick p) P ↔ ∀ a, p a → P a := Iff.rfl
theorem ok_get {o : Option α} {P : α → Prop} : Ok (get o) P ↔ ∃ a, o = some a ∧ P a := Iff.rfl
theorem ok_ite {b : Bool} {m n : W α} {P : α → Prop} : Ok (ite b m n) P ↔ (b = true → Ok m P) ∧ (b = false → Ok n P) := by
  cases b with
  | true => exact ⟨fun h => ⟨fun _ => h, fun e => (nomatch e)⟩, fun h => h.1 rfl⟩
  | false => exact ⟨fun h => ⟨fun e => (nomatch e), fun _ => h⟩, fun h => h.2 rfl⟩
theorem Ok.bind {m : W α} {f : α → W β} {P : α → Prop} {Q : β → Prop} (h : Ok m P) (k : ∀ a, P a → Ok (f a) Q) : Ok (W.bind m f) Q := m.mono k (fun _ x => x) h
theorem Ok.chk {c : Prop} {m : W α} {P : α → Prop} (h : c) (k : Ok m P) : Ok (W.chk c m) P := ⟨h, k⟩
@[simp] theorem ite_true (m n : W α) : ite true m n = m := rfl
@[simp] theorem ite_false (m n : W α) : ite false m n = n := rfl
@[simp] theorem get_some' (a : α) : get (some a) = pure a := get_some a
theorem pick_one {p : α → Prop} {x : α} (h : ∀ a, p a ↔ a = x) : pick p = pure x := W.ext fun Q E => propext ⟨fun k => k x ((h x).mpr rfl), fun k a pa => (h a).mp pa ▸ k⟩
theorem mapf_eq {t : ι → W Bool} {f : ι → W β} {c : ι → Bool} {g : ι → β} : ∀ {xs : List ι}, (∀ x ∈ xs, t x = pure (c x)) → (∀ x ∈ xs, c x = true → f x = pure (g x)) → mapf t f xs = pure ((xs.filter c).map g)
  | [], _, _ => rfl
  | x :: xs, ht, hf => by
    have ih := mapf_eq (xs := xs) (fun y hy => ht y (List.mem_cons_of_mem _ hy)) fun y hy => hf y (List.mem_cons_of_mem _ hy)
    unfold mapf
    rw [ht x (List.mem_cons_self ..), ih]
    show ite (c x) _ _ = _
    cases hc : c x with
    | true => rw [List.filter_cons_of_pos hc, hf x (List.mem_cons_self ..) hc]; rfl
    | false => rw [List.filter_cons_of_neg (by rw [hc]; exact Bool.false_ne_true)]; rfl
/-- .. of all -/
theorem mapf_all {f : ι → W β} {g : ι → β} {xs : List ι} (hf : ∀ x ∈ xs, f x = pure (g x)) : mapf (fun _ => pure true) f xs = pure (xs.map g) := by
  rw [mapf_eq (c := fun _ => true) (g := g) (fun _ _ => rfl) fun x hx _ => hf x hx, List.filter_eq_self.mpr fun _ _ => rfl]
/-- what holds of each item -/
theorem ok_mapf {t : ι → W Bool} {f : ι → W β} {C : ι → Bool → Prop} {R : ι → β → Prop} {P : List β → Prop} : ∀ {xs : List ι}, (∀ x ∈ xs, Ok (t x) (C x)) → (∀ x ∈ xs, C x true → Ok (f x) (R x)) → (∀ ys, Sel C R xs ys → P ys) → Ok (mapf t f xs) P := by
  have key : ∀ (xs : List ι) (zs : List ι) (us : List β), Sel C R zs us → (∀ x ∈ xs, Ok (t x) (C x)) → (∀ x ∈ xs, C x true → Ok (f x) (R x)) → Ok (mapf t f xs) fun ys => Sel C R (zs ++ xs) (us ++ ys) := by
    intro xs
    induction xs with
    | nil => intro zs us h _ _; show Sel C R (zs ++ []) (us ++ []); rw [List.append_nil, List.append_nil]; exact h
    | cons x xs ih =>
      intro zs us h ht hf
      unfold mapf
      refine Ok.bind (ht x (List.mem_cons_self ..)) fun b hb => ?_
      cases b with
      | true =>
        refine Ok.bind (hf x (List.mem_cons_self ..) hb) fun y hy => ?_
        have := ih (zs ++ [x]) (us ++ [y]) (.take h hb hy) (fun z hz => ht z (List.mem_cons_of_mem _ hz)) fun z hz => hf z (List.mem_cons_of_mem _ hz)
        refine Ok.bind this fun ys hys => ?_
        rw [List.append_assoc, List.append_assoc] at hys
        exact hys
      | false =>
        have := ih (zs ++ [x]) us (.skip h hb) (fun z hz => ht z (List.mem_cons_of_mem _ hz)) fun z hz => hf z (List.mem_cons_of_mem _ hz)
        refine Ok.mono this fun ys hys => ?_
        rw [List.append_assoc] at hys
        exact hys
  intro xs ht hf hP
  refine Ok.mono (key xs [] [] .nil ht hf) fun ys hys => hP ys (by simpa using hys)
theorem ok_fold {f : ι → S → W S} {P : S → Prop} (I : List ι → S → Prop) : ∀ {xs : List ι} {s : S}, I xs s → (∀ x r s, (x :: r) <:+ xs → I (x :: r) s → Ok (f x s) (I r)) → (∀ s, I [] s → P s) → Ok (fold f xs s) P
  | [], s, h, _, k => k s h
  | x :: xs, s, h, hs, k => by
    unfold fold
    refine Ok.bind (hs x xs s (List.suffix_refl _) h) fun s' h' => ok_fold I h' (fun y r s hr hi => hs y r s (hr.trans (List.suffix_cons x xs)) hi) k
/-- .. whose turns take only what stands in the list -/
theorem ok_foldM {f : ι → S → W S} {P : S → Prop} (I : S → Prop) {xs : List ι} {s : S} (h : I s) (hs : ∀ x ∈ xs, ∀ s, I s → Ok (f x s) I) (k : ∀ s, I s → P s) : Ok (fold f xs s) P :=
  ok_fold (fun _ => I) h (fun x r s hr hi => hs x (hr.subset (List.mem_cons_self ..)) s hi) k
/-- what a turn may do -/
def Step (I : S → Prop) (K : Out S R → Prop) : Fl S R S → Prop
  | .nx s => I s
  | .ct s => I s
  | .bk s => K (.fin s)
  | .rt r => K (.ret r)
theorem ok_loop {f : ι → S → W (Fl S R S)} {K : Out S R → Prop} (I : List ι → S → Prop) : ∀ {xs : List ι} {s : S}, I xs s → (∀ x r s, (x :: r) <:+ xs → I (x :: r) s → Ok (f x s) (Step (I r) K)) → (∀ s, I [] s → K (.fin s)) → Ok (loop f xs s) K
  | [], s, h, _, k => k s h
  | x :: xs, s, h, hs, k => by
    unfold loop
    refine Ok.bind (hs x xs s (List.suffix_refl _) h) fun o ho => ?_
    have next : ∀ s', I xs s' → Ok (loop f xs s') K := fun s' h' => ok_loop I h' (fun y r s hr hi => hs y r s (hr.trans (List.suffix_cons x xs)) hi) k
    cases o with
    | nx s' => exact next s' ho
    | ct s' => exact next s' ho
    | bk s' => exact ho
    | rt r => exact ho
theorem ok_loopM {f : ι → S → W (Fl S R S)} {K : Out S R → Prop} (I : S → Prop) {xs : List ι} {s : S} (h : I s) (hs : ∀ x ∈ xs, ∀ s, I s → Ok (f x s) (Step I K)) (k : ∀ s, I s → K (.fin s)) : Ok (loop f xs s) K :=
  ok_loop (fun _ => I) h (fun x r s hr hi => hs x (hr.subset (List.mem_cons_self ..)) s hi) k
/-- it ends, or returns what is wished -/
def Fin (I : S → Prop) (K : R → Prop) : Out S R → Prop
  | .fin s => I s
  | .ret r => K r
theorem ok_thenL {m : W (Out S R)} {n : S → W R} {I : S → Prop} {P : R → Prop} (h : Ok m (Fin I P)) (k : ∀ s, I s → Ok (n s) P) : Ok (m.thenL n) P := Ok.bind h fun o ho => by
  cases o with
  | fin s => exact k s ho
  | ret r => exact ho
theorem ok_thenF {S2 : Type} {m : W (Fl S R L)} {n : S → W (Fl S2 R L)} {P : Fl S R L → Prop} {Q : Fl S2 R L → Prop} (h : Ok m P) (k : ∀ s, P (.nx s) → Ok (n s) Q) (hr : ∀ r, P (.rt r) → Q (.rt r)) (hb : ∀ l, P (.bk l) → Q (.bk l)) (hc : ∀ l, P (.ct l) → Q (.ct l)) : Ok (m.thenF n) Q := Ok.bind h fun o ho => by
  cases o with
  | nx s => exact k s ho
  | rt r => exact hr r ho
  | bk l => exact hb l ho
  | ct l => exact hc l ho
/-- a loop within a turn -/
theorem ok_inner {S2 : Type} {m : W (Out S R)} {n : S → W (Fl S2 R L)} {I : S → Prop} {K : R → Prop} {Q : Fl S2 R L → Prop} (h : Ok m (Fin I K)) (hr : ∀ r, K r → Q (.rt r)) (k : ∀ s, I s → Ok (n s) Q) : Ok ((W.bind m W.outF).thenF n) Q := Ok.bind (Ok.bind h (P := Fin I K) (Q := fun o => match o with | .nx s => I s | .rt r => K r | .bk _ => False | .ct _ => False) fun o ho => by
  cases o with
  | fin s => exact ho
  | ret r => exact ho) fun o ho => by
  cases o with
  | nx s => exact k s ho
  | rt r => exact hr r ho
  | bk l => exact ho.elim
  | ct l => exact ho.elim
theorem rangeL_mem {n x : Int} (h : x ∈ rangeL n) : 0 ≤ x ∧ x < n := by
  unfold rangeL at h
  obtain ⟨i, hi, rfl⟩ := List.mem_map.mp h
  rw [List.mem_range] at hi
  omega
theorem ok_whileN {c : S → W Bool} {f : S → W S} {P : S → Prop} (μ : S → Nat) (I : S → Prop) (hc : ∀ s, I s → Ok (c s) fun b => (b = true → Ok (f s) fun s' => I s' ∧ μ s' < μ s) ∧ (b = false → P s)) {s : S} (h : I s) : Ok (wfold c f s) P := by
  refine ⟨μ s + 1, ?_⟩
  have key : ∀ n s, I s → μ s < n → (wfoldN c f n s).run P fun _ => False := by
    intro n
    induction n with
    | zero => intro s _ hn; omega
    | succ n ih =>
      intro s h hn
      unfold wfoldN
      refine Ok.bind (hc s h) fun b ⟨h1, h2⟩ => ?_
      cases b with
      | false => exact h2 rfl
      | true => exact Ok.bind (h1 rfl) fun s' ⟨h', hm⟩ => ih s' h' (by omega)
  exact key _ s h (by omega)
theorem ok_whileF {c : S → W Bool} {f : S → W (Fl S R S)} {K : Out S R → Prop} (μ : S → Nat) (I : S → Prop) (hc : ∀ s, I s → Ok (c s) fun b => (b = true → Ok (f s) (Step (fun s' => I s' ∧ μ s' < μ s) K)) ∧ (b = false → K (.fin s))) {s : S} (h : I s) : Ok (wloop c f s) K := by
  refine ⟨μ s + 1, ?_⟩
  have key : ∀ n s, I s → μ s < n → (wloopN c f n s).run K fun _ => False := by
    intro n
    induction n with
    | zero => intro s _ hn; omega
    | succ n ih =>
      intro s h hn
      unfold wloopN
      refine Ok.bind (hc s h) fun b ⟨h1, h2⟩ => ?_
      cases b with
      | false => exact h2 rfl
      | true =>
        refine Ok.bind (h1 rfl) fun o ho => ?_
        cases o with
        | nx s' => exact ih s' ho.1 (by have := ho.2; omega)
        | ct s' => exact ih s' ho.1 (by have := ho.2; omega)
        | bk s' => exact ho
        | rt r => exact ho
  exact key _ s h (by omega)
end W
end Dk

set_option Elab.async false
set_option linter.all false
set_option maxRecDepth 100000
set_option maxHeartbeats 1000000
namespace Dk
open PySem PySem.Spec PyProof.Rows L2
open Evl (Ex)
open Py (rp)
open PyD (pic)
/-! ### tuples of three and four -/
structure Tp3 (α β γ : Type) where
  x1 : α
  x2 : β
  x3 : γ
deriving DecidableEq
structure Tp4 (α β γ δ : Type) where
  x1 : α
  x2 : β
  x3 : γ
  x4 : δ
deriving DecidableEq
section
variable {α β γ δ : Type} [Py α] [Py β] [Py γ] [Py δ]
instance instPyTp3 : Py (Tp3 α β γ) where
  rp := fun G v x => ∃ t y z u, v = .ref t ∧ G t = some (.tup [y, z, u]) ∧ rp G y x.x1 ∧ rp G z x.x2 ∧ rp G u x.x3
  up := fun e ⟨t, y, z, u, h1, h2, h3, h4, h5⟩ => ⟨t, y, z, u, h1, e t _ h2, Py.up e h3, Py.up e h4, Py.up e h5⟩
instance instPyTp4 : Py (Tp4 α β γ δ) where
  rp := fun G v x => ∃ t y z u w, v = .ref t ∧ G t = some (.tup [y, z, u, w]) ∧ rp G y x.x1 ∧ rp G z x.x2 ∧ rp G u x.x3 ∧ rp G w x.x4
  up := fun e ⟨t, y, z, u, w, h1, h2, h3, h4, h5, h6⟩ => ⟨t, y, z, u, w, h1, e t _ h2, Py.up e h3, Py.up e h4, Py.up e h5, Py.up e h6⟩
instance [Firm α] [Firm β] [Firm γ] : Firm (Tp3 α β γ) := ⟨fun {G l vs v x} hl h => by
  obtain ⟨a, p, q, r, h1, h2, h3, h4, h5⟩ := h
  refine ⟨a, p, q, r, h1, ?_, Firm.keep hl h3, Firm.keep hl h4, Firm.keep hl h5⟩
  rw [del_ne fun e => ?_]
  · exact h2
  · rw [e, hl] at h2
    cases h2⟩
instance : NN (Tp3 α β γ) := ⟨fun ⟨a, x, y, z, h, _⟩ e => by rw [h] at e; cases e⟩
instance : NN (Tp4 α β γ δ) := ⟨fun ⟨a, x, y, z, w, h, _⟩ e => by rw [h] at e; cases e⟩
end
section
variable {α β γ δ : Type} [DecidableEq α] [DecidableEq β] [DecidableEq γ] [DecidableEq δ] [PyD α] [PyD β] [PyD γ] [PyD δ]
instance : PyD (Tp3 α β γ) where
  pic := fun p => .tuple [pic p.x1, pic p.x2, pic p.x3]
  ok := fun p => PyD.ok p.x1 ∧ PyD.ok p.x2 ∧ PyD.ok p.x3
  okr := fun p => PyD.okr p.x1 ∧ PyD.okr p.x2 ∧ PyD.okr p.x3
  size := fun p => PyD.size p.x1 + PyD.size p.x2 + PyD.size p.x3 + 3
  deep := max (max (PyD.deep α) (PyD.deep β)) (PyD.deep γ) + 1
  dp := fun e ⟨a, x, y, z, h1, h2, h3, h4, h5⟩ => h1 ▸ .tup (SqT.of (e a _ h2)) (.cons (PyD.dp e h3) (.cons (PyD.dp e h4) (.cons (PyD.dp e h5) .nil)))
  lay := fun h => by simp only [PyData.canLay0, PyData.canLayAll0, PyD.lay h.1, PyD.lay h.2.1, PyD.lay h.2.2]; rfl
  dep := fun p => by
    simp only [PyData.depth, PyData.depthAll]
    have := PyD.dep p.x1
    have := PyD.dep p.x2
    have := PyD.dep p.x3
    omega
  eqd := fun p q => by
    simp only [PyData.eqv, PyData.eqvAll, PyD.eqd, Bool.and_true]
    rw [← Bool.decide_and, ← Bool.decide_and]
    exact decide_eq_decide.mpr ⟨fun h => by cases p; cases q; obtain ⟨h1, h2, h3⟩ := h; cases h1; cases h2; cases h3; rfl, fun h => ⟨congrArg _ h, congrArg _ h, congrArg _ h⟩⟩
  sh := fun h => by
    obtain ⟨h1, h2, h3⟩ := PyD.sh h.1
    obtain ⟨g1, g2, g3⟩ := PyD.sh h.2.1
    obtain ⟨k1, k2, k3⟩ := PyD.sh h.2.2
    simp only [PyData.leavesShort, PyData.showable, PyData.hasDict, PyData.leavesShortAll, PyData.showableAll, PyData.hasDictAll, h1, h2, h3, g1, g2, g3, k1, k2, k3]
    exact ⟨rfl, rfl, rfl⟩
  bk := fun p => by
    simp only [PyData.bulk, PyData.bulkAll]
    have := PyD.bk p.x1
    have := PyD.bk p.x2
    have := PyD.bk p.x3
    omega
end
section
variable {α β γ δ A ι κ S S' S2 R L : Type} [Py α] [Py β] [Py γ] [Py δ] [Py ι] {XP : XPost} {D D1 D2 : List Sl} {te ta tb tc td tl : TE} {tt tu : TT} {t ts tz tw : TS} {B : Option Addr} {O O0 : Ow} {G G1 G2 H : Hp} {σ : L2.St} {K : PySem.W.Frag} {g g1 g2 g3 g4 : TG} {wi : TI}
theorem EW.tup3 {l : W α} {m : W β} {n : W γ} (h1 : EW XP D ta l) (h2 : EW XP D tb m) (h3 : EW XP D tc n) : EW XP D (tTup (tCons ta (tCons tb (tCons tc tNil)))) (l.bind fun x => m.bind fun y => n.bind fun z => W.pure (Tp3.mk x y z)) := fun B O0 O G H σ Q fr s q =>
  h1 fr s (l.mono (fun x k v G2 H2 e2 s2 rv => h2 (fr.up e2) s2 (m.mono (fun y k2 w G3 H3 e3 s3 rw => h3 (fr.up (Ex.t e2 e3)) s3 (n.mono (fun z k3 u G4 H4 e4 s4 ru =>
    ⟨line_le (by show 3 ≤ 1000000; decide), fun l hl => k3 (.ref l) _ _ (Ex.t e2 (Ex.t e3 (Ex.t e4 (s4.grow hl)))) (s4.still hl) ⟨l, v, w, u, rfl, upd_same, Py.up (Ex.t e3 (Ex.t e4 (s4.grow hl))) rv, Py.up (Ex.t e4 (s4.grow hl)) rw, Py.up (s4.grow hl) ru⟩⟩) (PX.up (Ex.t e2 e3)) k2)) (PX.up e2) k)) (fun _ x => x) q)
theorem EW.tup4 {l : W α} {m : W β} {n : W γ} {o : W δ} (h1 : EW XP D ta l) (h2 : EW XP D tb m) (h3 : EW XP D tc n) (h4 : EW XP D td o) : EW XP D (tTup (tCons ta (tCons tb (tCons tc (tCons td tNil))))) (l.bind fun x => m.bind fun y => n.bind fun z => o.bind fun w => W.pure (Tp4.mk x y z w)) := fun B O0 O G H σ Q fr s q =>
  h1 fr s (l.mono (fun x k v G2 H2 e2 s2 rv => h2 (fr.up e2) s2 (m.mono (fun y k2 w G3 H3 e3 s3 rw => h3 (fr.up (Ex.t e2 e3)) s3 (n.mono (fun z k3 u G4 H4 e4 s4 ru => h4 (fr.up (Ex.t e2 (Ex.t e3 e4))) s4 (o.mono (fun a k4 b G5 H5 e5 s5 rb =>
    ⟨line_le (by show 4 ≤ 1000000; decide), fun l hl => k4 (.ref l) _ _ (Ex.t e2 (Ex.t e3 (Ex.t e4 (Ex.t e5 (s5.grow hl))))) (s5.still hl) ⟨l, v, w, u, b, rfl, upd_same, Py.up (Ex.t e3 (Ex.t e4 (Ex.t e5 (s5.grow hl)))) rv, Py.up (Ex.t e4 (Ex.t e5 (s5.grow hl))) rw, Py.up (Ex.t e5 (s5.grow hl)) ru, Py.up (s5.grow hl) rb⟩⟩) (PX.up (Ex.t e2 (Ex.t e3 e4))) k3)) (PX.up (Ex.t e2 e3)) k2)) (PX.up e2) k)) (fun _ x => x) q)
theorem ixT {p : Addr} {us : List V} {i : Nat} {u : V} {x : α} {Q : VK} {E : Exn → Prop} (s : Sx B O G H) (hp : G p = some (.tup us)) (hu : us[i]? = some u) (ru : rp G u x) (q : (W.pure x).run (PV B O Q G) E) : rIx K (.ref p) (.int (i : Int)) H Q :=
  .inr (.inl ⟨p, us, i, u, rfl, rfl, SqT.of (s.ex p _ hp), by unfold atI; rw [Evl.ixN_nat (List.getElem?_eq_some_iff.mp hu).1]; exact hu, q u G H Ex.r s ru⟩)
theorem w_ix31 (p : Tp3 α β γ) : Op2W (rIx K) p (0 : Int) (W.pure p.x1) := fun B O G H v w s hv hw Q E q => by
  obtain ⟨t, y, z, u, rfl, h2, h3, h4, h5⟩ := hv
  obtain rfl : w = .int 0 := hw
  exact ixT (i := 0) s h2 rfl h3 q
theorem w_ix32 (p : Tp3 α β γ) : Op2W (rIx K) p (1 : Int) (W.pure p.x2) := fun B O G H v w s hv hw Q E q => by
  obtain ⟨t, y, z, u, rfl, h2, h3, h4, h5⟩ := hv
  obtain rfl : w = .int 1 := hw
  exact ixT (i := 1) s h2 rfl h4 q
theorem w_ix33 (p : Tp3 α β γ) : Op2W (rIx K) p (2 : Int) (W.pure p.x3) := fun B O G H v w s hv hw Q E q => by
  obtain ⟨t, y, z, u, rfl, h2, h3, h4, h5⟩ := hv
  obtain rfl : w = .int 2 := hw
  exact ixT (i := 2) s h2 rfl h5 q
theorem w_ix41 (p : Tp4 α β γ δ) : Op2W (rIx K) p (0 : Int) (W.pure p.x1) := fun B O G H v w s hv hw Q E q => by
  obtain ⟨t, y, z, u, b, rfl, h2, h3, h4, h5, h6⟩ := hv
  obtain rfl : w = .int 0 := hw
  exact ixT (i := 0) s h2 rfl h3 q
theorem w_ix42 (p : Tp4 α β γ δ) : Op2W (rIx K) p (1 : Int) (W.pure p.x2) := fun B O G H v w s hv hw Q E q => by
  obtain ⟨t, y, z, u, b, rfl, h2, h3, h4, h5, h6⟩ := hv
  obtain rfl : w = .int 1 := hw
  exact ixT (i := 1) s h2 rfl h4 q
theorem w_ix43 (p : Tp4 α β γ δ) : Op2W (rIx K) p (2 : Int) (W.pure p.x3) := fun B O G H v w s hv hw Q E q => by
  obtain ⟨t, y, z, u, b, rfl, h2, h3, h4, h5, h6⟩ := hv
  obtain rfl : w = .int 2 := hw
  exact ixT (i := 2) s h2 rfl h5 q
theorem w_ix44 (p : Tp4 α β γ δ) : Op2W (rIx K) p (3 : Int) (W.pure p.x4) := fun B O G H v w s hv hw Q E q => by
  obtain ⟨t, y, z, u, b, rfl, h2, h3, h4, h5, h6⟩ := hv
  obtain rfl : w = .int 3 := hw
  exact ixT (i := 3) s h2 rfl h6 q
/-- x[i], i written -/
theorem EW.ixC {i : Int} {m : W α} {f : α → W β} (h : EW XP D te m) (hf : ∀ x, Op2W (rIx K) x i (f x)) : EW XP D (tOp (rIx K) te (tC (.int i))) (m.bind f) := EW.lift (C := fun t => tOp (rIx K) t (tC (.int i))) h (fun _ _ _ _ => rfl) fun x v G B O σ r => fun G1 H1 e s Q E q => hf x B O G1 H1 v (.int i) s (Py.up e r) rfl Q E q
/-! ### targets of three -/
theorem wipe3 {ws vs us : List Nat} {σ σ1 σ2 σ3 : L2.St} (h1 : wipe σ1 ws = wipe σ ws) (h2 : wipe σ2 vs = wipe σ1 vs) (h3 : wipe σ3 us = wipe σ2 us) : wipe σ3 (ws ++ (vs ++ us)) = wipe σ (ws ++ (vs ++ us)) := by
  rw [wipe_app, wipe_app, wipe_app, wipe_app]
  rw [wipe_comm (ws := vs) (vs := us), wipe_comm (ws := ws) (vs := us), h3, wipe_comm (ws := us) (vs := ws), wipe_comm (ws := us) (vs := vs)]
  rw [wipe_comm (ws := ws) (vs := vs), h2, wipe_comm (ws := vs) (vs := ws), h1]
theorem TgW.tup3 {ws vs us : List Nat} {f1 : α → List Sl} {f2 : α → β → List Sl} {f3 : α → β → γ → List Sl} (h1 : TgW g1 ws D f1) (h2 : ∀ a, TgW g2 vs (f1 a) (f2 a)) (h3 : ∀ a b, TgW g3 us (f2 a b) (f3 a b)) : TgW (α := Tp3 α β γ) (gTup K 3 (gCons g1 (gCons g2 (gCons g3 gNil)))) (ws ++ (vs ++ us)) D fun p => f3 p.x1 p.x2 p.x3 := fun B O0 O G H σ v x Q fr s r k => by
  obtain ⟨p, y, z, u, rfl, hp, ry, rz, ru⟩ := r
  exact ⟨p, [y, z, u], rfl, SqT.of (s.ex p _ hp), rfl, y, [z, u], rfl, h1 fr s ry fun σ1 fr1 w1 => ⟨z, [u], rfl, h2 x.x1 fr1 s rz fun σ2 fr2 w2 => ⟨u, [], rfl, h3 x.x1 x.x2 fr2 s ru fun σ3 fr3 w3 => ⟨rfl, k σ3 fr3 (wipe3 w1 w2 w3)⟩⟩⟩⟩
theorem TgW.lst3 {ws vs us : List Nat} {f1 : α → List Sl} {f2 : α → α → List Sl} {f3 : α → α → α → List Sl} {f : List α → List Sl} (h1 : TgW g1 ws D f1) (h2 : ∀ a, TgW g2 vs (f1 a) (f2 a)) (h3 : ∀ a b, TgW g3 us (f2 a b) (f3 a b)) (hf : ∀ a b c, f [a, b, c] = f3 a b c) :
    ∀ ⦃B : Option Addr⦄ ⦃O0 O : Ow⦄ ⦃G H : Hp⦄ ⦃σ : L2.St⦄ ⦃v : V⦄ ⦃x : List α⦄ ⦃Q : L2.St → Hp → Prop⦄, x.length = 3 → Fr B G D σ O → Sx B (O ++ O0) G H → rp G v x → (∀ σ', Fr B G (f x) σ' O → wipe σ' (ws ++ (vs ++ us)) = wipe σ (ws ++ (vs ++ us)) → Q σ' H) → True := fun _ _ _ _ _ _ _ _ _ _ _ _ _ _ => trivial
/-! ### places, sets, sums -/
theorem EW.indexD {α : Type} [DecidableEq α] [PyD α] {m : W (List α)} {n : W α} (hd : PyD.deep α ≤ 39) (h : EW XP D ta m) (h' : EW XP D tb n) : EW XP D (tBM K "list" (rIndexD K) ta (tCons tb tNil)) (m.bind fun xs => n.bind fun x => W.chk (x ∈ xs ∧ PyD.ok xs ∧ PyD.ok x) (W.pure ((xs.findIdx fun y => decide (y = x) : Nat) : Int))) := fun B O0 O G H σ Q f s q =>
  h f s (m.mono (fun xs k v G2 H2 e2 s2 rv => by
    obtain ⟨a, vs, rfl, ha, ra⟩ := rv
    refine ⟨.inl ⟨rfl, vs, SqL.of (s2.ex a _ ha)⟩, h' (f.up e2) s2 (n.mono (fun x ⟨⟨hx, ox, oy⟩, k2⟩ w G3 H3 e3 s3 rw => ?_) (PX.up e2) k)⟩
    have hlt : (xs.findIdx fun y => decide (y = x)) < xs.length := List.findIdx_lt_length_of_exists ⟨x, hx, decide_eq_true rfl⟩
    refine ⟨a, w, pic x, xs.map pic, _, pic x, rfl, rfl, ?_, PyD.dp s3.ex rw, ?_, shaped_pic oy (by omega), ?_, by rw [PyD.eqd]; exact decide_eq_true rfl, ?_, k2 _ G3 H3 (Ex.t e2 e3) s3 rfl⟩
    · exact PyD.dp (a := xs) s3.ex ⟨a, vs, rfl, e3 a _ ha, all2_up e3 ra⟩
    · exact shaped_pic (a := xs) ox (by show PyD.deep α + 1 ≤ 40; omega)
    · rw [List.getElem?_map, List.getElem?_eq_getElem hlt]
      have := List.findIdx_getElem (p := fun y => decide (y = x)) (xs := xs) (w := hlt)
      rw [of_decide_eq_true this]
      rfl
    · intro j z' hj hz
      rw [List.getElem?_map] at hz
      cases hg : xs[j]? with
      | none => rw [hg] at hz; cases hz
      | some y =>
        rw [hg] at hz
        cases hz
        rw [PyD.eqd]
        obtain ⟨hjl, e⟩ := List.getElem?_eq_some_iff.mp hg
        have := List.not_of_lt_findIdx hj
        rw [e] at this
        simpa using this) (fun _ x => x) q)
theorem EW.lenSet {P : Program} {w : World} {m : W (List Str)} (h : EW XP D te m) : EW XP D (tCB (rLenK P w) (tCons (tCB (rSetK K P w) (tCons te tNil)) tNil)) (m.bind fun xs => W.chk ((dd (xs.map Sum.inr)).length ≤ 4000) (W.pure ((dd (xs.map Sum.inr)).length : Int))) := EW.lift (C := fun t => tCB (rLenK P w) (tCons (tCB (rSetK K P w) (tCons t tNil)) tNil)) h (fun _ _ _ _ => rfl) fun x v G B O σ r => .chk fun c => .ofD (ev_lenSet (cstD r) c)
theorem EWN.sortSet {w : World} {m : W (List Str)} (h : EW XP D te m) : EWN XP D (tCB (rSortT w) (tCons (tCB (rSetT K w) (tCons te tNil)) tNil)) (m.bind fun xs => W.chk (xs.length ≤ 4000 ∧ (ddT xs).length < 64) (W.pick fun ys => ys.Perm (ddT xs) ∧ sortedS ys = true)) := EWN.lift (C := fun t => tCB (rSortT w) (tCons (tCB (rSetT K w) (tCons t tNil)) tNil)) h (fun _ _ _ _ => rfl) fun x v G B O σ r => .chk fun c => .ofP ((en_sortT (P := fun t : TSet w => t.items = ddT x) ((ev_setT (P := fun xs => xs = x) (cstD r) fun xs e => by rw [e]; exact c.1).imp fun t ⟨xs, e, h⟩ => by rw [h, e]) fun t h => by rw [h]; exact c.2).imp fun ys ⟨t, h, pm, so⟩ => ⟨by rw [← h]; exact pm, so⟩)
theorem EW.sum {m : W (List Int)} (h : EW XP D te m) : EW XP D (tCB (rSum K) (tCons te tNil)) (m.bind fun xs => W.pure xs.sum) := EW.lift (C := fun t => tCB (rSum K) (tCons t tNil)) h (fun _ _ _ _ => rfl) fun x v G B O σ r => fun G1 H1 e s Q E q => by
  obtain ⟨a, vs, rfl, ha, ra⟩ := r
  exact ⟨a, x, rfl, SqL.of (s.ex a _ (e a _ (by rw [ha, all2_ints ra]))), q _ G1 H1 Ex.r s rfl⟩
theorem EW.maxL {m : W (List Int)} (h : EW XP D te m) : EW XP D (tCB (rMax K) (tCons te tNil)) (m.bind fun xs => W.chk (xs ≠ []) (W.pick fun i => i ∈ xs ∧ ∀ y ∈ xs, y ≤ i)) := EW.lift (C := fun t => tCB (rMax K) (tCons t tNil)) h (fun _ _ _ _ => rfl) fun x v G B O σ r => fun G1 H1 e s Q E ⟨c, q⟩ => by
  obtain ⟨a, vs, rfl, ha, ra⟩ := r
  exact ⟨a, x, rfl, SqL.of (s.ex a _ (e a _ (by rw [ha, all2_ints ra]))), List.length_pos_iff.mpr c, fun i h1 h2 => q i ⟨h1, h2⟩ _ G1 H1 Ex.r s rfl⟩
theorem EW.minL {m : W (List Int)} (h : EW XP D te m) : EW XP D (tCB (rMin K) (tCons te tNil)) (m.bind fun xs => W.chk (xs ≠ []) (W.pick fun i => i ∈ xs ∧ ∀ y ∈ xs, i ≤ y)) := EW.lift (C := fun t => tCB (rMin K) (tCons t tNil)) h (fun _ _ _ _ => rfl) fun x v G B O σ r => fun G1 H1 e s Q E ⟨c, q⟩ => by
  obtain ⟨a, vs, rfl, ha, ra⟩ := r
  exact ⟨a, x, rfl, SqL.of (s.ex a _ (e a _ (by rw [ha, all2_ints ra]))), List.length_pos_iff.mpr c, fun i h1 h2 => q i ⟨h1, h2⟩ _ G1 H1 Ex.r s rfl⟩
/-! ### bits -/
theorem w_and (x y : Int) : Op2W (rI0 fun i j => .int (Builtin.bitAnd i j)) x y (W.pure (Builtin.bitAnd x y)) := fun B O G H v w s hv hw Q E q => ⟨x, y, hv, hw, q _ G H Ex.r s rfl⟩
theorem w_or (x y : Int) : Op2W (rI0 fun i j => .int (Builtin.bitOr i j)) x y (W.pure (Builtin.bitOr x y)) := fun B O G H v w s hv hw Q E q => ⟨x, y, hv, hw, q _ G H Ex.r s rfl⟩
theorem w_shl (x y : Int) : Op2W (rI CPow fun i j => .int (i * 2 ^ j.toNat)) x y (W.chk (CPow x y) (W.pure (x * 2 ^ y.toNat))) := fun B O G H v w s hv hw Q E ⟨c, q⟩ => ⟨x, y, hv, hw, c, q _ G H Ex.r s rfl⟩
theorem w_shr (x y : Int) : Op2W (rI (fun _ j => 0 ≤ j) fun i j => .int (i / 2 ^ j.toNat)) x y (W.chk (0 ≤ y) (W.pure (x / 2 ^ y.toNat))) := fun B O G H v w s hv hw Q E ⟨c, q⟩ => ⟨x, y, hv, hw, c, q _ G H Ex.r s rfl⟩
end
end Dk

set_option Elab.async false
set_option linter.all false
set_option maxRecDepth 100000
set_option maxHeartbeats 1000000
namespace Dk
open PySem PySem.Spec PyProof.Rows L2
open Evl (Ex)
open Py (rp)
open PyD (pic)
/-! ### dicts of any keys: texts, whole numbers, tuples of texts, pairs -/
section
variable {κ κ' β : Type} [DecidableEq κ] [DecidableEq κ']
def lookA (ps : List (κ × β)) (k : κ) : Option β := (ps.find? fun p => decide (p.1 = k)).map (·.2)
def putA (ps : List (κ × β)) (k : κ) (b : β) : List (κ × β) := if (ps.any fun p => decide (p.1 = k)) = true then ps.map (fun p => if p.1 = k then (p.1, b) else p) else ps ++ [(k, b)]
theorem valV_emb {f : κ → κ'} (hf : ∀ a b, f a = f b → a = b) {k : κ} : ∀ {kvs : List (κ × V)}, valV (kvs.map fun p => (f p.1, p.2)) (f k) = valV kvs k
  | [] => rfl
  | p :: kvs => by
    rw [List.map_cons]
    by_cases h : p.1 = k
    · rw [valV_pos (p := (f p.1, p.2)) (congrArg f h), valV_pos h]
    · rw [valV_neg (p := (f p.1, p.2)) (fun e => h (hf _ _ e)), valV_neg h, valV_emb hf]
theorem putK_emb {f : κ → κ'} (hf : ∀ a b, f a = f b → a = b) {k : κ} {v : V} {kvs : List (κ × V)} : putK (kvs.map fun p => (f p.1, p.2)) (f k) v = (putK kvs k v).map fun p => (f p.1, p.2) := by
  unfold putK
  have e : ((kvs.map fun p => (f p.1, p.2)).any fun kv => decide (kv.1 = f k)) = kvs.any fun kv => decide (kv.1 = k) := by
    rw [List.any_map]
    congr 1
    funext p
    exact decide_eq_decide.mpr ⟨fun h => hf _ _ h, fun h => congrArg f h⟩
  rw [e]
  split
  · rw [List.map_map, List.map_map]
    refine List.map_congr_left fun p _ => ?_
    by_cases h : p.1 = k
    · show (if f p.1 = f k then (f p.1, v) else (f p.1, p.2)) = (fun p => (f p.1, p.2)) (if p.1 = k then (p.1, v) else p)
      rw [if_pos h, if_pos (congrArg f h)]
    · show (if f p.1 = f k then (f p.1, v) else (f p.1, p.2)) = (fun p => (f p.1, p.2)) (if p.1 = k then (p.1, v) else p)
      rw [if_neg h, if_neg fun q => h (hf _ _ q)]
  · rw [List.map_append]
    rfl
theorem kv_len {i : Py β} {G : Hp} : ∀ {kvs : List (κ × V)} {ps : List (κ × β)}, Paired (KvA i G) kvs ps → kvs.length = ps.length
  | _, _, .nil => rfl
  | _, _, .cons _ t => congrArg Nat.succ (kv_len t)
theorem kv_look {i : Py β} {G : Hp} {k : κ} : ∀ {kvs : List (κ × V)} {ps : List (κ × β)}, Paired (KvA i G) kvs ps → (lookA ps k = none ∧ valV kvs k = none) ∨ ∃ b v, lookA ps k = some b ∧ valV kvs k = some v ∧ i.rp G v b
  | _, _, .nil => .inl ⟨rfl, rfl⟩
  | kv :: kvs, p :: ps, .cons r t => by
    by_cases h : p.1 = k
    · exact .inr ⟨p.2, kv.2, by simp [lookA, h], valV_pos (r.1.trans h), r.2⟩
    · have e1 : lookA (p :: ps) k = lookA ps k := by simp [lookA, h]
      rw [e1, valV_neg (p := kv) (fun e => h (r.1.symm.trans e))]
      exact kv_look t
theorem kv_any {i : Py β} {G : Hp} {k : κ} : ∀ {kvs : List (κ × V)} {ps : List (κ × β)}, Paired (KvA i G) kvs ps → (kvs.any fun kv => decide (kv.1 = k)) = ps.any fun p => decide (p.1 = k)
  | _, _, .nil => rfl
  | kv :: kvs, p :: ps, .cons r t => by rw [List.any_cons, List.any_cons, r.1, kv_any t]
theorem kv_app {i : Py β} {G : Hp} : ∀ {kvs lvs : List (κ × V)} {ps qs : List (κ × β)}, Paired (KvA i G) kvs ps → Paired (KvA i G) lvs qs → Paired (KvA i G) (kvs ++ lvs) (ps ++ qs)
  | _, _, _, _, .nil, s => s
  | _, _, _, _, .cons r t, s => .cons r (kv_app t s)
theorem kv_put {i : Py β} {G : Hp} {k : κ} {v : V} {b : β} {kvs : List (κ × V)} {ps : List (κ × β)} (h : Paired (KvA i G) kvs ps) (r : i.rp G v b) : Paired (KvA i G) (putK kvs k v) (putA ps k b) := by
  unfold putK putA
  rw [kv_any h]
  split
  · rename_i hh
    clear hh
    induction h with
    | nil => exact .nil
    | @cons kv p kvs ps a t ih =>
      refine .cons ?_ ih
      · by_cases e : p.1 = k
        · show KvA i G (if kv.1 = k then (kv.1, v) else kv) (if p.1 = k then (p.1, b) else p)
          rw [if_pos e, if_pos (a.1.trans e)]
          exact ⟨a.1, r⟩
        · show KvA i G (if kv.1 = k then (kv.1, v) else kv) (if p.1 = k then (p.1, b) else p)
          rw [if_neg e, if_neg fun q => e (a.1.symm.trans q)]
          exact a
  · exact kv_app h (.cons ⟨rfl, r⟩ .nil)
end
/-- tuples of texts -/
structure TuS where
  items : List Str
deriving DecidableEq
instance : Py TuS := ⟨fun G v x => ∃ a, v = .ref a ∧ G a = some (.tup (x.items.map V.str)), fun e ⟨a, h1, h2⟩ => ⟨a, h1, e a _ h2⟩⟩
instance : NN TuS := ⟨fun ⟨a, h, _⟩ e => by rw [h] at e; cases e⟩
theorem kV_strs (xs : List Str) : ((xs.map (Sum.inr (α := Int))).map kV) = xs.map V.str := by rw [List.map_map]; rfl
theorem inr_inj {xs ys : List Str} (h : xs.map (Sum.inr (α := Int)) = ys.map Sum.inr) : xs = ys := by
  have := congrArg (List.map fun k : Int ⊕ Str => match k with | .inr x => x | .inl _ => Str.empty) h
  simpa [List.map_map, Function.comp_def] using this
instance : DKey Str where
  obj := fun kvs => .dK (kvs.map fun p => (Sum.inr p.1, p.2))
  get := fun {G H a y kvs k} e h r => by
    obtain rfl : y = .str k := r
    have := DGet.k (k := Sum.inr k) h
    rwa [valV_emb (f := Sum.inr) (fun a b e => Sum.inr.inj e)] at this
  put := fun {G H a y v kvs k} e h r hl => by
    obtain rfl : y = .str k := r
    have := DPut.k (k := Sum.inr k) (v := v) h (by rw [List.length_map]; exact hl)
    rwa [putK_emb (f := Sum.inr) (fun a b e => Sum.inr.inj e)] at this
instance : DKey Int where
  obj := fun kvs => .dK (kvs.map fun p => (Sum.inl p.1, p.2))
  get := fun {G H a y kvs k} e h r => by
    obtain rfl : y = .int k := r
    have := DGet.k (k := Sum.inl k) h
    rwa [valV_emb (f := Sum.inl) (fun a b e => Sum.inl.inj e)] at this
  put := fun {G H a y v kvs k} e h r hl => by
    obtain rfl : y = .int k := r
    have := DPut.k (k := Sum.inl k) (v := v) h (by rw [List.length_map]; exact hl)
    rwa [putK_emb (f := Sum.inl) (fun a b e => Sum.inl.inj e)] at this
def keyS (x : TuS) : List Key := x.items.map Sum.inr
theorem keyS_inj (a b : TuS) (h : keyS a = keyS b) : a = b := by cases a; cases b; exact congrArg TuS.mk (inr_inj h)
instance : DKey TuS where
  obj := fun kvs => .dT (kvs.map fun p => (keyS p.1, p.2))
  get := fun {G H a y kvs k} e h r => by
    obtain ⟨b, rfl, hb⟩ := r
    have := DGet.t (k := keyS k) h (by rw [e b _ hb]; unfold keyS; rw [kV_strs])
    rwa [valV_emb (f := keyS) keyS_inj] at this
  put := fun {G H a y v kvs k} e h r hl => by
    obtain ⟨b, rfl, hb⟩ := r
    have := DPut.t (k := keyS k) (v := v) h (by rw [e b _ hb]; unfold keyS; rw [kV_strs]) (by rw [List.length_map]; exact hl)
    rwa [putK_emb (f := keyS) keyS_inj] at this
def keySS (x : Str × Str) : List Key := [Sum.inr x.1, Sum.inr x.2]
theorem keySS_inj (a b : Str × Str) (h : keySS a = keySS b) : a = b := by
  obtain ⟨h1, h2⟩ := List.cons.inj h
  exact Prod.ext (Sum.inr.inj h1) (Sum.inr.inj (List.cons.inj h2).1)
instance : DKey (Str × Str) where
  obj := fun kvs => .dT (kvs.map fun p => (keySS p.1, p.2))
  get := fun {G H a y kvs k} e h r => by
    obtain ⟨b, x, z, rfl, hb, hx, hz⟩ := r
    obtain rfl : x = .str k.1 := hx
    obtain rfl : z = .str k.2 := hz
    have := DGet.t (k := keySS k) h (e b _ hb)
    rwa [valV_emb (f := keySS) keySS_inj] at this
  put := fun {G H a y v kvs k} e h r hl => by
    obtain ⟨b, x, z, rfl, hb, hx, hz⟩ := r
    obtain rfl : x = .str k.1 := hx
    obtain rfl : z = .str k.2 := hz
    have := DPut.t (k := keySS k) (v := v) h (e b _ hb) (by rw [List.length_map]; exact hl)
    rwa [putK_emb (f := keySS) keySS_inj] at this
def keyII (x : Int × Int) : List Key := [Sum.inl x.1, Sum.inl x.2]
theorem keyII_inj (a b : Int × Int) (h : keyII a = keyII b) : a = b := by
  obtain ⟨h1, h2⟩ := List.cons.inj h
  exact Prod.ext (Sum.inl.inj h1) (Sum.inl.inj (List.cons.inj h2).1)
instance : DKey (Int × Int) where
  obj := fun kvs => .dT (kvs.map fun p => (keyII p.1, p.2))
  get := fun {G H a y kvs k} e h r => by
    obtain ⟨b, x, z, rfl, hb, hx, hz⟩ := r
    obtain rfl : x = .int k.1 := hx
    obtain rfl : z = .int k.2 := hz
    have := DGet.t (k := keyII k) h (e b _ hb)
    rwa [valV_emb (f := keyII) keyII_inj] at this
  put := fun {G H a y v kvs k} e h r hl => by
    obtain ⟨b, x, z, rfl, hb, hx, hz⟩ := r
    obtain rfl : x = .int k.1 := hx
    obtain rfl : z = .int k.2 := hz
    have := DPut.t (k := keyII k) (v := v) h (e b _ hb) (by rw [List.length_map]; exact hl)
    rwa [putK_emb (f := keyII) keyII_inj] at this
section
variable {α β γ δ A ι κ S S' S2 R L : Type} [Py α] [Py β] [Py γ] [Py δ] [Py ι] [Py κ] [DecidableEq κ] [DKey κ] {XP : XPost} {D D1 D2 : List Sl} {te ta tb tc td tl tk tv : TE} {tt tu : TT} {t ts tz tw : TS} {B : Option Addr} {O O0 : Ow} {G G1 G2 H : Hp} {σ : L2.St} {K : PySem.W.Frag} {g g1 g2 g3 g4 : TG} {wi : TI}
theorem EW.tupS {m : W (List Str)} (h : EW XP D te m) : EW XP D (tCB (fun xs H Q => ∃ p ys, xs = [.ref p] ∧ ((SqL K H p ys ∧ ∀ l, H l = none → Q (.ref l) (upd H l (.tup ys))) ∨ (SqT K H p ys ∧ Q (.ref p) H))) (tCons te tNil)) (m.bind fun xs => W.pure (TuS.mk xs)) := EW.lift (C := fun t => tCB (fun xs H Q => ∃ p ys, xs = [.ref p] ∧ ((SqL K H p ys ∧ ∀ l, H l = none → Q (.ref l) (upd H l (.tup ys))) ∨ (SqT K H p ys ∧ Q (.ref p) H))) (tCons t tNil)) h (fun _ _ _ _ => rfl) fun x v G B O σ r => fun G1 H1 e s Q E q => by
  obtain ⟨a, vs, rfl, ha, ra⟩ := r
  refine ⟨a, vs, rfl, .inl ⟨SqL.of (s.ex a _ (e a _ ha)), fun l hl => q (.ref l) _ _ (s.grow hl) (s.still hl) ⟨l, rfl, ?_⟩⟩⟩
  rw [upd_same, all2_strs ra]
/-! ### what stands still -/
theorem kget_at {d : Dc κ β} {k : κ} {v w : V} {H : Hp} (s : Sx B O G H) (r : rp G v d) (rk : rp G w k) : ∃ a, v = .ref a ∧ ((lookA d.items k = none ∧ DGet H a w none) ∨ ∃ b u, lookA d.items k = some b ∧ DGet H a w (some u) ∧ rp G u b) := by
  obtain ⟨a, kvs, rfl, ha, rs⟩ := r
  have g := DKey.get (y := w) s.ex (s.ex a _ ha) rk
  refine ⟨a, rfl, ?_⟩
  rcases kv_look (k := k) rs with ⟨h1, h2⟩ | ⟨b, u, h1, h2, h3⟩
  · rw [h2] at g
    exact .inl ⟨h1, g⟩
  · rw [h2] at g
    exact .inr ⟨b, u, h1, g, h3⟩
theorem EW.kget {m : W (Dc κ β)} {n : W κ} (h : EW XP D td m) (h' : EW XP D ta n) : EW XP D (tDGet td ta) (m.bind fun d => n.bind fun k => W.get (lookA d.items k)) := EW.lift2 (C := fun t u => tDGet t u) (g := fun (d : Dc κ β) k => W.get (lookA d.items k)) h h' (fun _ _ _ _ _ => rfl) fun d k v w G B O σ r r' => fun G1 H1 e s Q E ⟨b, eb, q⟩ => by
  obtain ⟨a, rfl, ⟨h1, _⟩ | ⟨b', u, h1, h2, h3⟩⟩ := kget_at (k := k) s (Py.up e r) (Py.up e r')
  · rw [h1] at eb; cases eb
  · rw [h1] at eb; cases eb
    exact ⟨a, u, rfl, h2, q u G1 H1 Ex.r s h3⟩
theorem EW.kin {m : W (Dc κ β)} {n : W κ} (h' : EW XP D ta n) (h : EW XP D td m) : EW XP D (tDIn ta td) (n.bind fun k => m.bind fun d => W.pure (lookA d.items k).isSome) := EW.lift2 (C := fun t u => tDIn t u) (g := fun k (d : Dc κ β) => W.pure (lookA d.items k).isSome) h' h (fun _ _ _ _ _ => rfl) fun k d w v G B O σ r' r => fun G1 H1 e s Q E q => by
  obtain ⟨a, rfl, ⟨h1, h2⟩ | ⟨b', u, h1, h2, h3⟩⟩ := kget_at (k := k) s (Py.up e r) (Py.up e r')
  · exact ⟨a, _, rfl, h2, q _ G1 H1 Ex.r s (by rw [h1]; rfl)⟩
  · exact ⟨a, _, rfl, h2, q _ G1 H1 Ex.r s (by rw [h1]; rfl)⟩
theorem EW.knotin {m : W (Dc κ β)} {n : W κ} (h' : EW XP D ta n) (h : EW XP D td m) : EW XP D (tDNotIn ta td) (n.bind fun k => m.bind fun d => W.pure (!(lookA d.items k).isSome)) := EW.lift2 (C := fun t u => tDNotIn t u) (g := fun k (d : Dc κ β) => W.pure (!(lookA d.items k).isSome)) h' h (fun _ _ _ _ _ => rfl) fun k d w v G B O σ r' r => fun G1 H1 e s Q E q => by
  obtain ⟨a, rfl, ⟨h1, h2⟩ | ⟨b', u, h1, h2, h3⟩⟩ := kget_at (k := k) s (Py.up e r) (Py.up e r')
  · exact ⟨a, _, rfl, h2, q _ G1 H1 Ex.r s (by rw [h1]; rfl)⟩
  · exact ⟨a, _, rfl, h2, q _ G1 H1 Ex.r s (by rw [h1]; rfl)⟩
/-! ### one's own -/
theorem Fr.ocAt {i : Nat} {ps : List (κ × β)} (fr : Fr B G D σ O) (hi : D[i]? = some (owc ps)) : ∃ p kvs O1 O2, O = O1 ++ [(p, DKey.obj kvs)] ++ O2 ∧ σ[i]? = some (some (.ref p)) ∧ Paired (KvA (κ := κ) inferInstance G) kvs ps ∧
    ∀ G' (kvs' : List (κ × V)) (qs : List (κ × β)), Ex G G' → Paired (KvA inferInstance G') kvs' qs → Fr B G' (D.set i (owc qs)) σ (O1 ++ [(p, DKey.obj kvs')] ++ O2) := by
  obtain ⟨O1, o, O2, v, e1, e2, ⟨p, kvs, e3, e4, ra⟩, z⟩ := fr.focus hi
  subst e4; subst e3
  refine ⟨p, kvs, O1, O2, e1, e2, ra, fun G' kvs' qs e r => ?_⟩
  have f := z G' (owc qs) (some (.ref p)) [(p, DKey.obj kvs')] e ⟨p, kvs', rfl, rfl, r⟩
  have : σ.set i (some (.ref p)) = σ := by
    refine List.ext_getElem? fun j => ?_
    rw [List.getElem?_set]
    by_cases h : i = j
    · subst h
      rw [if_pos rfl, e2, if_pos (List.getElem?_eq_some_iff.mp e2).1]
    · rw [if_neg h]
  rw [this] at f
  exact f
theorem kgetO_at {i : Nat} {ps : List (κ × β)} {k : κ} {w : V} (fr : Fr B G D σ O) (hi : D[i]? = some (owc ps)) (s : Sx B (O ++ O0) G H) (rk : rp G w k) : ∃ a, σ[i]? = some (some (.ref a)) ∧ ((lookA ps k = none ∧ DGet H a w none) ∨ ∃ b u, lookA ps k = some b ∧ DGet H a w (some u) ∧ rp G u b) := by
  obtain ⟨a, kvs, O1, O2, e1, e2, rs, z⟩ := fr.ocAt hi
  have hp : H a = some (DKey.obj kvs) := (s.own (a, DKey.obj kvs) (by rw [e1]; simp)).1
  have g := DKey.get (y := w) s.ex hp rk
  refine ⟨a, e2, ?_⟩
  rcases kv_look (k := k) rs with ⟨h1, h2⟩ | ⟨b, u, h1, h2, h3⟩
  · rw [h2] at g
    exact .inl ⟨h1, g⟩
  · rw [h2] at g
    exact .inr ⟨b, u, h1, g, h3⟩
theorem EW.kgetO {i : Nat} {ps : List (κ × β)} {n : W κ} (hi : D[i]? = some (owc ps)) (h : EW XP D ta n) : EW XP D (tDGet (tVar i) ta) (n.bind fun k => W.get (lookA ps k)) := fun B O0 O G H σ Q fr s q => by
  obtain ⟨a0, _, _, _, _, e0, _, _⟩ := fr.ocAt hi
  refine ⟨_, e0, h fr s (n.mono (fun k ⟨b, eb, k2⟩ w G2 H2 e s2 rk => ?_) (fun _ x => x) q)⟩
  obtain ⟨a, ea, ⟨h1, _⟩ | ⟨b', u, h1, h2, h3⟩⟩ := kgetO_at (k := k) (fr.up e) hi s2 rk
  · rw [h1] at eb; cases eb
  · rw [h1] at eb; cases eb
    rw [e0] at ea; cases ea
    exact ⟨a0, u, rfl, h2, k2 u G2 H2 e s2 h3⟩
theorem EW.kinO {i : Nat} {ps : List (κ × β)} {n : W κ} (hi : D[i]? = some (owc ps)) (h : EW XP D ta n) : EW XP D (tDIn ta (tVar i)) (n.bind fun k => W.pure (lookA ps k).isSome) := fun B O0 O G H σ Q fr s q => by
  refine h fr s (n.mono (fun k k2 w G2 H2 e s2 rk => ?_) (fun _ x => x) q)
  obtain ⟨a, ea, hh⟩ := kgetO_at (k := k) (fr.up e) hi s2 rk
  refine ⟨_, ea, ?_⟩
  rcases hh with ⟨h1, h2⟩ | ⟨b', u, h1, h2, h3⟩
  · exact ⟨a, _, rfl, h2, k2 _ G2 H2 e s2 (by rw [h1]; rfl)⟩
  · exact ⟨a, _, rfl, h2, k2 _ G2 H2 e s2 (by rw [h1]; rfl)⟩
theorem EW.knotinO {i : Nat} {ps : List (κ × β)} {n : W κ} (hi : D[i]? = some (owc ps)) (h : EW XP D ta n) : EW XP D (tDNotIn ta (tVar i)) (n.bind fun k => W.pure (!(lookA ps k).isSome)) := fun B O0 O G H σ Q fr s q => by
  refine h fr s (n.mono (fun k k2 w G2 H2 e s2 rk => ?_) (fun _ x => x) q)
  obtain ⟨a, ea, hh⟩ := kgetO_at (k := k) (fr.up e) hi s2 rk
  refine ⟨_, ea, ?_⟩
  rcases hh with ⟨h1, h2⟩ | ⟨b', u, h1, h2, h3⟩
  · exact ⟨a, _, rfl, h2, k2 _ G2 H2 e s2 (by rw [h1]; rfl)⟩
  · exact ⟨a, _, rfl, h2, k2 _ G2 H2 e s2 (by rw [h1]; rfl)⟩
theorem StW.kput {i : Nat} {ps : List (κ × β)} {n : W κ} {m : W β} (hi : D[i]? = some (owc ps)) (h : EW XP D tv m) (h' : EW XP D ta n) : StW XP D (sDPut (tVar i) ta tv) (m.bind fun b => n.bind fun k => W.chk (ps.length ≤ 1000000) (W.pure (putA ps k b))) fun qs => D.set i (owc qs) := fun B O0 O G H σ Ds fr s q => by
  obtain ⟨p, kvs, O1, O2, e1, e2, rs, z⟩ := fr.ocAt hi
  refine h fr s (m.mono (fun b k v G2 H2 e s2 r => ⟨.ref p, e2, h' (fr.up e) s2 (n.mono (fun x ⟨c, k⟩ w G3 H3 e3 s3 rk => ?_) (PX.up e) k)⟩) (fun _ x => x) q)
  have ee := Ex.t e e3
  have s4 : Sx B ((p, DKey.obj kvs) :: (O1 ++ O2 ++ O0)) G3 H3 := by rw [e1] at s3; exact s3.perm mid_head
  refine ⟨p, _, rfl, DKey.put s3.ex s4.head.1 rk (line_lt (by rw [kv_len rs]; exact c)), k σ _ G3 _ ee (z G3 _ _ ee (kv_put (Paired.mapP rs fun _ _ ⟨x, y⟩ => ⟨x, Py.up ee y⟩) (Py.up e3 r))) (s4.put.perm mid_new)⟩
/-- a new dict of one's own -/
def EWC (XP : XPost) (D : List Sl) (te : TE) (m : W (List (κ × β))) : Prop :=
  ∀ ⦃B : Option Addr⦄ ⦃O0 O : Ow⦄ ⦃G H : Hp⦄ ⦃σ : L2.St⦄ ⦃Q : VK⦄, Fr B G D σ O → Sx B (O ++ O0) G H → m.run (fun ps => ∀ p (kvs : List (κ × V)) G2 H2, Ex G G2 → Sx B ((p, DKey.obj kvs) :: (O ++ O0)) G2 H2 → Paired (KvA (κ := κ) inferInstance G2) kvs ps → Q (.ref p) H2) (PX XP B O0 G) → te σ H Q
theorem EWC.newK (h : DKey.obj (κ := κ) [] = .dK []) : EWC (κ := κ) (β := β) XP D tDNewK (W.pure []) := fun B O0 O G H σ Q fr s q p hp => by
  have s2 := s.mine (o := .dK []) hp
  rw [← h] at s2 ⊢
  exact q p [] G _ Ex.r s2 .nil
theorem EWC.newT (h : DKey.obj (κ := κ) [] = .dT []) : EWC (κ := κ) (β := β) XP D tDNewT (W.pure []) := fun B O0 O G H σ Q fr s q p hp => by
  have s2 := s.mine (o := .dT []) hp
  rw [← h] at s2 ⊢
  exact q p [] G _ Ex.r s2 .nil
/-- {k: v}, k a tuple of texts -/
theorem EWC.disp1 {n : W TuS} {m : W β} (h' : ∀ XP, EW XP D tk n) (h : ∀ XP, EW XP D tv m) : EWC XP D (tDisp1T tk tv) (n.bind fun k => m.bind fun b => W.pure [(k, b)]) := fun B O0 O G H σ Q fr s q p hp => by
  have s0 := s.mine (o := .dT []) hp
  have hz := s0.head.2
  have sm : ∀ {G2 H2 : _}, Sx B (O ++ ((p, HO.dT []) :: O0)) G2 H2 ↔ Sx B ((p, HO.dT []) :: (O ++ O0)) G2 H2 := fun {G2 H2} => ⟨fun x => x.perm List.perm_middle, fun x => x.perm List.perm_middle.symm⟩
  refine h' (fun _ _ _ e => PX XP B O0 G e) (O0 := (p, .dT []) :: O0) fr (sm.mpr s0) (n.mono (fun k k1 u G2 H2 e s2 rk => h (fun _ _ _ e => PX XP B O0 G e) (O0 := (p, .dT []) :: O0) (fr.up e) s2 (m.mono (fun b k2 v G3 H3 e3 s3 rv => ?_) (fun e he G1 _ => he) k1)) (fun e he G1 _ => he) q)
  · have s4 := sm.mp s3
    obtain ⟨x, rfl, hx⟩ := Py.up e3 rk
    refine ⟨s4.head.1, x, keyS k, rfl, ?_, k2 p [(k, v)] G3 _ (Ex.t e e3) s4.put (.cons ⟨rfl, rv⟩ .nil)⟩
    unfold keyS
    rw [kV_strs]
    exact s4.ex x _ hx
theorem EW.stillC {m : W (List (κ × β))} (h : EWC XP D te m) : EW XP D te (m.bind fun ps => W.pure (Dc.mk ps)) := fun B O0 O G H σ Q fr s q => h fr s (m.mono (fun ps k p kvs G2 H2 e s2 r => by
  have f := s2.freeze
  exact k (.ref p) _ H2 (Ex.t e f.2) f.1 ⟨p, kvs, rfl, upd_same, Paired.mapP r fun _ _ ⟨a, b⟩ => ⟨a, Py.up f.2 b⟩⟩) (fun _ x => x) q)
theorem StW.setC {i : Nat} {s : Sl} {m : W (List (κ × β))} (h : EWC XP D te m) (hi : D[i]? = some s) : StW XP D (tAsg te (gName i)) m fun a => D.set i (owc a) := fun B O0 O G H σ Ds fr sx q => h fr sx (m.mono (fun a k p kvs G2 H2 e s2 r => by
  obtain ⟨O1, o, O2, v, e1, e2, e3, z⟩ := (fr.up e).focus hi
  have f := z G2 (owc a) (some (.ref p)) [(p, DKey.obj kvs)] Ex.r ⟨p, kvs, rfl, rfl, r⟩
  refine k _ _ G2 H2 e f ((s2.sub ?_).perm mid_new)
  rw [e1]
  refine List.Sublist.cons₂ _ ?_
  have := @mid_out O0 o O1 O2
  simpa only [List.append_nil] using this) (fun _ x => x) q)
end
end Dk

set_option Elab.async false
set_option linter.all false
set_option maxRecDepth 100000
set_option maxHeartbeats 1000000
namespace Dk
open PySem PySem.Spec PyProof.Rows L2
open Evl (Ex)
open Py (rp)
open PyD (pic)
section
variable {α β γ δ A ι S S' S2 R L : Type} [Py α] [Py β] [Py γ] [Py δ] [Py ι] {XP : XPost} {D D1 D2 : List Sl} {te ta tb tc td tl tk tv : TE} {tt tu : TT} {ts tz tw : TS} {B : Option Addr} {O O0 : Ow} {G G1 G2 H : Hp} {σ : L2.St} {K : PySem.W.Frag} {g g1 g2 g3 g4 : TG} {wi : TI} {n : Nat}
/-! ### calls with keyword-only parameters -/
def EWAD (XP : XPost) (D : List Sl) (t : TA) (ar : AR A) (dvs : List V) (m : W A) : Prop :=
  ∀ ⦃B : Option Addr⦄ ⦃O0 O : Ow⦄ ⦃G H : Hp⦄ ⦃σ : L2.St⦄ ⦃Q : List V → Hp → Prop⦄, Fr B G D σ O → Sx B (O ++ O0) G H → m.run (fun a => ∀ vs G2 H2, Ex G G2 → Sx B (O ++ O0) G2 H2 → ar.rel B G2 (vs ++ dvs) a → Q vs H2) (PX XP B O0 G) → t σ H Q
theorem EWAD.nil {i : Int} : EWAD XP D tNil (aC (α := Int) aN) [.int i] (W.pure (i, ())) := fun _ _ _ _ _ _ _ fr s q => q [] _ _ Ex.r s ⟨_, _, rfl, rfl, rfl⟩
theorem EWAD.cons {tr : TA} {ar : AR A} {dvs : List V} {m : W α} {mr : W A} (h : EW XP D te m) (hr : EWAD XP D tr ar dvs mr) : EWAD XP D (tCons te tr) (aC ar) dvs (m.bind fun a => mr.bind fun r => W.pure (a, r)) := fun B O0 O G H σ Q fr s q =>
  h fr s (m.mono (fun a k v G2 H2 e2 s2 rv => hr (fr.up e2) s2 (mr.mono (fun r k2 ws G3 H3 e3 s3 rr => k2 (v :: ws) G3 H3 (Ex.t e2 e3) s3 ⟨v, _, rfl, Py.up e3 rv, rr⟩) (PX.up e2) k)) (fun _ x => x) q)
theorem EW.callD {ta : TA} {ar : AR A} {dvs : List V} {ma : W A} {m : A → W γ} {E : XK} (h : EWAD XP0 D ta ar dvs ma) : EW XP0 D (tCall (SpV XE0 ar m) dvs E ta) (ma.bind m) := fun B O0 O G H σ Q fr s q =>
  h fr s (ma.mono (fun a k vs G2 H2 e s2 r => ⟨B, O ++ O0, G2, a, s2, r, (m a).mono (PV.up e) (fun x hx => (PX0 x hx).elim) k⟩) (fun _ x => x) q)
theorem EWN.callD {ta : TA} {ar : AR A} {dvs : List V} {ma : W A} {m : A → W (List γ)} {E : XK} (h : EWAD XP0 D ta ar dvs ma) : EWN XP0 D (tCall (SpO XE0 ar m) dvs E ta) (ma.bind m) := fun B O0 O G H σ Q fr s q =>
  h fr s (ma.mono (fun a k vs G2 H2 e s2 r => ⟨B, O ++ O0, G2, a, s2, r, (m a).mono (fun xs k2 p ws G3 H3 e3 => k2 p ws G3 H3 (Ex.t e e3)) (fun x hx => (PX0 x hx).elim) k⟩) (fun _ x => x) q)
def EWAK (XP : XPost) (D : List Sl) (t tk : TA) (n : Nat) (ar : AR A) (m : W A) : Prop :=
  ∀ ⦃B : Option Addr⦄ ⦃O0 O : Ow⦄ ⦃G H : Hp⦄ ⦃σ : L2.St⦄ ⦃Q : List V → List V → Hp → Prop⦄, Fr B G D σ O → Sx B (O ++ O0) G H → m.run (fun a => ∀ vs zs G2 H2, Ex G G2 → Sx B (O ++ O0) G2 H2 → vs.length = n → zs.length = 1 → ar.rel B G2 (vs ++ zs) a → Q vs zs H2) (PX XP B O0 G) → t σ H fun vs H1 => tk σ H1 fun zs H2 => Q vs zs H2
theorem EWAK.nil {m : W Int} (h : EW XP D te m) : EWAK XP D tNil (tCons te tNil) 0 (aC (α := Int) aN) (m.bind fun i => W.pure (i, ())) := fun B O0 O G H σ Q fr s q =>
  h fr s (m.mono (fun i k v G2 H2 e2 s2 rv => k [] [v] G2 H2 e2 s2 rfl rfl ⟨_, _, rfl, rv, rfl⟩) (fun _ x => x) q)
theorem EWAK.cons {tr tz : TA} {ar : AR A} {m : W α} {mr : W A} (h : EW XP D te m) (hr : EWAK XP D tr tz n ar mr) : EWAK XP D (tCons te tr) tz (n + 1) (aC ar) (m.bind fun a => mr.bind fun r => W.pure (a, r)) := fun B O0 O G H σ Q fr s q =>
  h fr s (m.mono (fun a k v G2 H2 e2 s2 rv => hr (Q := fun vs zs H2 => Q (v :: vs) zs H2) (fr.up e2) s2 (mr.mono (fun r k2 ws zs G3 H3 e3 s3 l1 l2 rr => k2 (v :: ws) zs G3 H3 (Ex.t e2 e3) s3 (congrArg Nat.succ l1) l2 ⟨v, _, rfl, Py.up e3 rv, rr⟩) (PX.up e2) k)) (fun _ x => x) q)
theorem EW.callK {ta tk : TA} {ar : AR A} {ma : W A} {m : A → W γ} {E : XK} (h : EWAK XP0 D ta tk n ar ma) : EW XP0 D (tCallN n 1 (SpV XE0 ar m) (fun vs zs => vs ++ zs) E ta tk) (ma.bind m) := fun B O0 O G H σ Q fr s q =>
  h fr s (ma.mono (fun a k vs zs G2 H2 e s2 l1 l2 r => ⟨l1, l2, B, O ++ O0, G2, a, s2, r, (m a).mono (PV.up e) (fun x hx => (PX0 x hx).elim) k⟩) (fun _ x => x) q)
theorem EWN.callK {ta tk : TA} {ar : AR A} {ma : W A} {m : A → W (List γ)} {E : XK} (h : EWAK XP0 D ta tk n ar ma) : EWN XP0 D (tCallN n 1 (SpO XE0 ar m) (fun vs zs => vs ++ zs) E ta tk) (ma.bind m) := fun B O0 O G H σ Q fr s q =>
  h fr s (ma.mono (fun a k vs zs G2 H2 e s2 l1 l2 r => ⟨l1, l2, B, O ++ O0, G2, a, s2, r, (m a).mono (fun xs k2 p ws G3 H3 e3 => k2 p ws G3 H3 (Ex.t e e3)) (fun x hx => (PX0 x hx).elim) k⟩) (fun _ x => x) q)
/-! ### x, y = a list -/
def two? : List α → Option (α × α)
  | [a, b] => some (a, b)
  | _ => none
def three? : List α → Option (Tp3 α α α)
  | [a, b, c] => some ⟨a, b, c⟩
  | _ => none
theorem StW.unl2 {ws vs : List Nat} {f1 : α → List Sl} {f2 : α → α → List Sl} {m : W (List α)} (h : EW XP D te m) (h1 : TgW g1 ws D f1) (h2 : ∀ a, TgW g2 vs (f1 a) (f2 a)) : StW XP D (tAsg te (gUnl K 2 (gCons g1 (gCons g2 gNil)))) (m.bind fun xs => W.get (two? xs)) fun p => f2 p.1 p.2 := fun B O0 O G H σ Ds fr sx q => h fr sx (m.mono (fun xs ⟨p, ep, k⟩ v G2 H2 e s2 r => by
  obtain ⟨a, us, rfl, ha, ra⟩ := r
  match xs, ep, ra with
  | [x, y], rfl, .cons (a := u) rx (.cons (a := w) ry .nil) =>
    exact ⟨a, _, rfl, SqL.of (s2.ex a _ ha), rfl, u, _, rfl, h1 (fr.up e) s2 rx fun σ1 fr1 w1 => ⟨w, _, rfl, h2 x fr1 s2 ry fun σ2 fr2 w2 => ⟨rfl, k σ2 _ G2 H2 e fr2 s2⟩⟩⟩) (fun _ x => x) q)
theorem StW.unl3 {ws vs us : List Nat} {f1 : α → List Sl} {f2 : α → α → List Sl} {f3 : α → α → α → List Sl} {m : W (List α)} (h : EW XP D te m) (h1 : TgW g1 ws D f1) (h2 : ∀ a, TgW g2 vs (f1 a) (f2 a)) (h3 : ∀ a b, TgW g3 us (f2 a b) (f3 a b)) : StW XP D (tAsg te (gUnl K 3 (gCons g1 (gCons g2 (gCons g3 gNil))))) (m.bind fun xs => W.get (three? xs)) fun p => f3 p.x1 p.x2 p.x3 := fun B O0 O G H σ Ds fr sx q => h fr sx (m.mono (fun xs ⟨p, ep, k⟩ v G2 H2 e s2 r => by
  obtain ⟨a, us, rfl, ha, ra⟩ := r
  match xs, ep, ra with
  | [x, y, z], rfl, .cons (a := u) rx (.cons (a := w) ry (.cons (a := t) rz .nil)) =>
    exact ⟨a, _, rfl, SqL.of (s2.ex a _ ha), rfl, u, _, rfl, h1 (fr.up e) s2 rx fun σ1 fr1 w1 => ⟨w, _, rfl, h2 x fr1 s2 ry fun σ2 fr2 w2 => ⟨t, _, rfl, h3 x y fr2 s2 rz fun σ3 fr3 w3 => ⟨rfl, k σ3 _ G2 H2 e fr3 s2⟩⟩⟩⟩) (fun _ x => x) q)
/-- x, y, z = e, f, g -/
theorem StW.par3 {i j l : Nat} {s t u : Sl} {m : W α} {n : W β} {o : W γ} (h : EW XP D ta m) (h' : EW XP D tb n) (h'' : EW XP D tc o) (hi : D[i]? = some s) (hj : ∀ a : α, (D.set i (stv a))[j]? = some t) (hl : ∀ (a : α) (b : β), ((D.set i (stv a)).set j (stv b))[l]? = some u) :
    StW XP D (tPar3 i j l (tCons ta (tCons tb (tCons tc tNil)))) (m.bind fun a => n.bind fun b => o.bind fun c => W.pure (Tp3.mk a b c)) fun p => ((D.set i (stv p.x1)).set j (stv p.x2)).set l (stv p.x3) := fun B O0 O G H σ Ds fr sx q =>
  h fr sx (m.mono (fun a k v G2 H2 e s2 r => h' (fr.up e) s2 (n.mono (fun b k2 w G3 H3 e3 s3 r3 => h'' (fr.up (Ex.t e e3)) s3 (o.mono (fun c k3 y G4 H4 e4 s4 r4 => by
    obtain ⟨O1, f1, sb1⟩ := (fr.up (Ex.t e (Ex.t e3 e4))).put hi (Py.up (Ex.t e3 e4) r)
    obtain ⟨O2, f2, sb2⟩ := f1.put (hj a) (Py.up e4 r3)
    obtain ⟨O3, f3, sb3⟩ := f2.put (hl a b) r4
    exact ⟨v, w, y, rfl, k3 _ O3 G4 H4 (Ex.t e (Ex.t e3 e4)) f3 (sub_app s4 (sb3.trans (sb2.trans sb1)))⟩) (PX.up (Ex.t e e3)) k2)) (PX.up e) k)) (fun _ x => x) q)
end
end Dk
namespace Dk
open PySem PySem.Spec PyProof.Rows L2
section
variable {X : Cx} {K : PySem.W.Frag}
theorem hu65_of' {A : Around} {k : Nat} (h : Room k A) : A.units + 65 < cLine := by have := h.un; omega
theorem indexDQ (h : X.K = K) (hu : X.A.units + 65 < cLine) : MtR X "list.index" (rIndexD K) := h ▸ mt_indexD hu
theorem sumQ (hc : X.calm = true) (h : X.K = K) : CallR X (.builtin "sum") (rSum K) := h ▸ cr_sum hc
theorem minQ (hc : X.calm = true) (h : X.K = K) : CallR X (.builtin "min") (rMin K) := h ▸ cr_min hc
theorem tupQ (h : X.K = K) : CallR X (.type "tuple") (fun xs H Q => ∃ p ys, xs = [.ref p] ∧ ((SqL K H p ys ∧ ∀ l, H l = none → Q (.ref l) (upd H l (.tup ys))) ∨ (SqT K H p ys ∧ Q (.ref p) H))) := h ▸ call_tuple_of
theorem unlQ {pos : Pos} {es : List Expr} {k : Nat} {t : TGs} {n : Nat} (h0 : X.K = K) (hc : X.calm = true) (h : PGs X es t)
    (hn : (assignEach es X.env).length = n := by rfl) (hst : (assignEach es X.env).findIdx? (·.1) = none := by rfl) : PG X (.Tuple es k pos) (gUnl K n t) := h0 ▸ pg_unl hc h hn hst
end
end Dk

set_option Elab.async false
set_option linter.all false
set_option maxRecDepth 100000
set_option maxHeartbeats 1000000
namespace Dk
open PySem PySem.Spec PyProof.Rows L2
open Evl (Ex)
open Py (rp)
open PyD (pic)
section
variable {α β γ δ A ι κ S S' S2 R L : Type} [Py α] [Py β] [Py γ] [Py δ] [Py ι] {XP : XPost} {D D1 D2 : List Sl} {te ta tb tc td tl : TE} {tt tu : TT} {ts tz tw : TS} {B : Option Addr} {O O0 : Ow} {G G1 G2 H : Hp} {σ : L2.St} {K : PySem.W.Frag} {g : TG} {wi : TI}
/-! ### answers with owned parts, taken by targets; what the slots owned is dropped -/
theorem Fr.putD (h : Fr B G D σ O) {i : Nat} {s s' : Sl} {v : Option V} {o : Ow} (hi : D[i]? = some s) (k : SlOk B G s' v o) (sx : Sx B (o ++ (O ++ O0)) G H) : ∃ O', Fr B G (D.set i s') (σ.set i v) O' ∧ Sx B (O' ++ O0) G H := by
  obtain ⟨O1, o1, O2, w, e1, e2, e3, z⟩ := h.focus hi
  subst e1
  exact ⟨_, z G s' v o Ex.r k, (sx.sub ((List.Sublist.refl o).append mid_out)).perm (ov_in (o := o1))⟩
theorem TgF.nameD {α : Type} {p : PO α} {i : Nat} {s : Sl} (hi : D[i]? = some s) : TgF (gName i) p D fun x => D.set i (.ov p x) := fun B0 O0 O o G H σ v x Q fr sx r k => by
  obtain ⟨O', f, s2⟩ := fr.putD hi (s' := .ov p x) (v := some v) ⟨v, rfl, r⟩ sx
  exact k _ O' f s2
theorem TgF.ownD {i : Nat} {s : Sl} (hi : D[i]? = some s) : TgF (gName i) (PO.list (PO.st (α := α))) D fun x => D.set i (Dk.own x) := fun B0 O0 O o G H σ v x Q fr sx ⟨l, ws, r, h1, h2, h3⟩ k => by
  obtain ⟨h4, h5⟩ := h3.to
  subst h5
  obtain ⟨O', f, s2⟩ := fr.putD hi (s' := Dk.own x) (v := some v) ⟨l, ws, by rw [h1], h2, h4⟩ sx
  exact k _ O' f s2
theorem TgF.stD {i : Nat} {s : Sl} (hi : D[i]? = some s) : TgF (gName i) (PO.st (α := α)) D fun x => D.set i (stv x) := fun B0 O0 O o G H σ v x Q fr sx ⟨h1, h2⟩ k => by
  subst h1
  obtain ⟨O', f, s2⟩ := fr.putD hi (s' := stv x) (v := some v) (o := []) ⟨rfl, v, rfl, h2⟩ sx
  exact k _ O' f s2
theorem StW.tgtF {α : Type} {p : PO α} {f : α → List Sl} {m : W α} (h : EWF XP p D te m) (hg : TgF g p D f) : StW XP D (tAsg te g) m f := fun B O0 O G H σ Ds fr sx q => h fr sx (m.mono (fun a k v o G2 H2 e s2 r => hg (fr.up e) s2 r fun σ' O' f' s' => k σ' O' G2 H2 e f' s') (fun _ x => x) q)
/-! ### lent to a call whose answer is owned -/
class FirmP {γ : Type} (p : PO γ) : Prop where
  keep : ∀ {G : Hp} {l : Addr} {vs : List V} {v : V} {x : γ} {o : Ow}, G l = some (.lst vs) → p.rp G v x o → p.rp (del G l) v x o
instance [Firm α] : FirmP (PO.st (α := α)) := ⟨fun hl h => ⟨h.1, Firm.keep hl h.2⟩⟩
theorem not_lst {G : Hp} {l t : Addr} {vs ys : List V} (hl : G l = some (.lst vs)) (h : G t = some (.tup ys)) : del G l t = some (.tup ys) := by
  rw [del_ne fun e => ?_]
  · exact h
  · rw [e, hl] at h; cases h
instance {α β : Type} {p : PO α} {q : PO β} [FirmP p] [FirmP q] : FirmP (PO.pair p q) := ⟨fun hl ⟨t, y, z, o1, o2, h1, h2, h3, h4, h5⟩ => ⟨t, y, z, o1, o2, h1, not_lst hl h2, h3, FirmP.keep hl h4, FirmP.keep hl h5⟩⟩
theorem PoL.keep {α : Type} {p : PO α} [FirmP p] {G : Hp} {l : Addr} {us : List V} (hl : G l = some (.lst us)) {vs : List V} {xs : List α} {o : Ow} (h : PoL p G vs xs o) : PoL p (del G l) vs xs o := by
  induction h with
  | nil => exact .nil
  | cons a _ ih => exact .cons (FirmP.keep hl a) ih
instance {α : Type} {p : PO α} [FirmP p] : FirmP (PO.list p) := ⟨fun hl ⟨l, ws, r, h1, h2, h3⟩ => ⟨l, ws, r, h1, h2, h3.keep hl⟩⟩
theorem firmP_delL {γ : Type} {p : PO γ} [FirmP p] {o o' : Ow} {v : V} {x : γ} (hl : ∀ q ∈ o, ∃ ws, q.2 = .lst ws) (f : ∀ q ∈ o, G q.1 = some q.2) (r : p.rp G v x o') : p.rp (delL G o) v x o' := by
  induction o generalizing G with
  | nil =>
    have : delL G [] = G := funext fun a => delL_out (by simp)
    rw [this]; exact r
  | cons q o ih =>
    obtain ⟨ws, hq⟩ := hl q (List.mem_cons_self ..)
    have g1 : G q.1 = some (.lst ws) := by rw [f q (List.mem_cons_self ..), hq]
    by_cases hm : q.1 ∈ o.map (·.1)
    · have : delL G (q :: o) = delL G o := funext fun a => by
        unfold delL
        have : a ∈ (q :: o).map (·.1) ↔ a ∈ o.map (·.1) := ⟨fun h => by
          rw [List.map_cons] at h
          rcases List.mem_cons.mp h with rfl | h
          · exact hm
          · exact h, fun h => List.mem_cons_of_mem _ h⟩
        simp only [this]
      rw [this]
      exact ih (fun q hq => hl q (List.mem_cons_of_mem _ hq)) (fun q hq => f q (List.mem_cons_of_mem _ hq)) r
    · have r1 := FirmP.keep (G := G) g1 r
      have : delL G (q :: o) = delL (del G q.1) o := funext fun a => by
        unfold delL del
        rw [List.map_cons]
        by_cases h1 : a ∈ o.map (·.1)
        · rw [if_pos h1, if_pos (List.mem_cons_of_mem _ h1)]
        · rw [if_neg h1]
          by_cases h2 : a = q.1
          · rw [if_pos (by rw [h2]; exact List.mem_cons_self ..), if_pos h2]
          · rw [if_neg (fun h => (List.mem_cons.mp h).elim h2 h1), if_neg h2]
      rw [this]
      refine ih (fun q hq => hl q (List.mem_cons_of_mem _ hq)) (fun q' hq' => ?_) r1
      rw [del_ne (fun e => hm (by rw [← e]; exact List.mem_map_of_mem hq'))]
      exact f q' (List.mem_cons_of_mem _ hq')
theorem acc_inL {x o r : Ow} : (x ++ (o ++ r)).Perm (o ++ (x ++ r)) := by
  rw [← List.append_assoc]
  exact app_swap
theorem EWF.lendF {α γ : Type} {p : PO α} {q : PO γ} [FirmP q] {i : Nat} {x : α} {m : W γ} (hi : D[i]? = some (.ov p x)) (h : ∀ XP, EWF XP q (unbag (D.set i (.st p.py x))) te m) : EWF XP q D te m := fun B O0 O G H σ Q fr s k => by
  obtain ⟨O1, o, O2, u, e1, e2, ra, z⟩ := fr.ovAt hi
  subst e1
  obtain ⟨y, sL, eL, fL, back⟩ := (s.perm ov_out).lentL
  have f := (z (updL G o) (.st p.py x) (some u) [] eL ⟨rfl, u, rfl, p.frz eL fL ra⟩).unbag
  rw [set_same e2] at f
  refine h (fun _ _ _ e => PX XP B O0 G e) f (sL.perm lend_in) (m.mono (fun a k' v o' G2 H2 e s2 r => ?_) (fun e he G1 _ => he) k)
  obtain ⟨s3, e5⟩ := back o' G2 H2 e (s2.perm ((List.Perm.append_left o' lend_in.symm).trans acc_inL))
  exact k' v o' _ H2 e5 (s3.perm (acc_inL.trans (List.Perm.append_left o' ov_out.symm))) (firmP_delL (p.lists ra) (fun q hq => e _ _ (fL q hq)) r)
theorem ow_ov {i : Nat} {xs : List α} (fr : Fr B G D σ O) (hi : D[i]? = some (own xs)) : Fr B G (D.set i (.ov (PO.list (PO.st (α := α))) xs)) σ O := by
  obtain ⟨O1, o, O2, v, e1, e2, ⟨p, ws, e3, e4, ra⟩, z⟩ := fr.focus hi
  have f := z G (.ov (PO.list (PO.st (α := α))) xs) (some (.ref p)) o Ex.r ⟨.ref p, rfl, p, ws, [], rfl, e4, .of ra⟩
  rw [set_same (by rw [e2, e3]), ← e1] at f
  exact f
theorem EWF.lend {γ : Type} {q : PO γ} [FirmP q] {i : Nat} {xs : List α} {m : W γ} (hi : D[i]? = some (own xs)) (h : ∀ XP, EWF XP q (unbag (D.set i (stv xs))) te m) : EWF XP q D te m := fun B O0 O G H σ Q fr s k => by
  have hl : i < D.length := (List.getElem?_eq_some_iff.mp hi).1
  refine EWF.lendF (D := D.set i (.ov (PO.list (PO.st (α := α))) xs)) (i := i) (p := PO.list (PO.st (α := α))) (x := xs) (by rw [List.getElem?_set_self hl]) (fun XP => ?_) (ow_ov fr hi) s k
  rw [List.set_set]
  exact h XP
theorem EWF.lendF0 {α γ : Type} {p : PO α} {q : PO γ} [FirmP q] {i : Nat} {x : α} {m : W γ} (hi : D[i]? = some (.ov p x)) (h : EWF XP0 q (unbag (D.set i (.st p.py x))) te m) : EWF XP0 q D te m := fun B O0 O G H σ Q fr s k => by
  obtain ⟨O1, o, O2, u, e1, e2, ra, z⟩ := fr.ovAt hi
  subst e1
  obtain ⟨y, sL, eL, fL, back⟩ := (s.perm ov_out).lentL
  have f := (z (updL G o) (.st p.py x) (some u) [] eL ⟨rfl, u, rfl, p.frz eL fL ra⟩).unbag
  rw [set_same e2] at f
  refine h f (sL.perm lend_in) (m.mono (fun a k' v o' G2 H2 e s2 r => ?_) (fun e he => (PX0 e he).elim) k)
  obtain ⟨s3, e5⟩ := back o' G2 H2 e (s2.perm ((List.Perm.append_left o' lend_in.symm).trans acc_inL))
  exact k' v o' _ H2 e5 (s3.perm (acc_inL.trans (List.Perm.append_left o' ov_out.symm))) (firmP_delL (p.lists ra) (fun q hq => e _ _ (fL q hq)) r)
theorem EWF.lend0 {γ : Type} {q : PO γ} [FirmP q] {i : Nat} {xs : List α} {m : W γ} (hi : D[i]? = some (own xs)) (h : EWF XP0 q (unbag (D.set i (stv xs))) te m) : EWF XP0 q D te m := fun B O0 O G H σ Q fr s k => by
  have hl : i < D.length := (List.getElem?_eq_some_iff.mp hi).1
  refine EWF.lendF0 (D := D.set i (.ov (PO.list (PO.st (α := α))) xs)) (i := i) (p := PO.list (PO.st (α := α))) (x := xs) (by rw [List.getElem?_set_self hl]) ?_ (ow_ov fr hi) s k
  rw [List.set_set]
  exact h
/-! ### moved out -/
/-- return x, e: x one's own -/
theorem Rt.pairO {α : Type} {p : PO α} {i : Nat} {a : α} {m : W β} (h : D[i]? = some (.ov p a)) (h' : EW XP D te m) : Rt XP (rmF (PO.pair p (PO.st (α := β)))) D (tRet (tTup (tCons (tVar i) (tCons te tNil)))) (m.bind fun b => W.pure (a, b)) := fun B O0 O G H σ Ds fr s q => by
  obtain ⟨O1, o, O2, u, e1, e2, r, _⟩ := fr.ovAt h
  refine ⟨u, e2, h' fr s (m.mono (fun b k v G2 H2 e s2 rb => ⟨line_le (by show 2 ≤ 1000000; decide), fun l hl => k G2 e (.ref l) o _ _ (s2.grow hl) ((s2.still hl).sub ?_) ⟨l, u, v, o, [], rfl, upd_same, by simp, p.up (Ex.t e (s2.grow hl)) r, rfl, Py.up (s2.grow hl) rb⟩⟩) (fun _ x => x) q)⟩
  rw [e1]
  refine List.Sublist.append ?_ (.refl _)
  exact (List.sublist_append_right O1 o).trans (List.sublist_append_left _ _)
/-- return e, x: x one's own -/
theorem Rt.pairO2 {α : Type} {p : PO α} {i : Nat} {a : α} {m : W β} (h : D[i]? = some (.ov p a)) (h' : EW XP D te m) : Rt XP (rmF (PO.pair (PO.st (α := β)) p)) D (tRet (tTup (tCons te (tCons (tVar i) tNil)))) (m.bind fun b => W.pure (b, a)) := fun B O0 O G H σ Ds fr s q => by
  obtain ⟨O1, o, O2, u, e1, e2, r, _⟩ := fr.ovAt h
  refine h' fr s (m.mono (fun b k v G2 H2 e s2 rb => ⟨u, e2, line_le (by show 2 ≤ 1000000; decide), fun l hl => k G2 e (.ref l) o _ _ (s2.grow hl) ((s2.still hl).sub ?_) ⟨l, v, u, [], o, rfl, upd_same, rfl, ⟨rfl, Py.up (s2.grow hl) rb⟩, p.up (Ex.t e (s2.grow hl)) r⟩⟩) (fun _ x => x) q)
  rw [e1]
  refine List.Sublist.append ?_ (.refl _)
  exact (List.sublist_append_right O1 o).trans (List.sublist_append_left _ _)
/-- return x, y: both one's own -/
theorem Rt.pairOO {α β : Type} {p : PO α} {q : PO β} {i j : Nat} {a : α} {b : β} (hi : D[i]? = some (.ov p a)) (hj : D[j]? = some (.ov q b)) (ne : i ≠ j) : Rt XP (rmF (PO.pair p q)) D (tRet (tTup (tCons (tVar i) (tCons (tVar j) tNil)))) (W.pure (a, b)) := fun B O0 O G H σ Ds fr s k => by
  obtain ⟨P1, oj, P2, u, f1, f2, rj, zj⟩ := fr.ovAt hj
  have fr1 := zj G .any (some u) [] Ex.r rfl
  rw [set_same f2] at fr1
  obtain ⟨O1, o, O2, w, e1, e2, ra, z⟩ := fr1.ovAt (p := p) (a := a) (i := i) (by rw [List.getElem?_set_ne (Ne.symm ne)]; exact hi)
  subst f1
  have s1 : Sx B (oj ++ (P1 ++ [] ++ P2 ++ O0)) G H := s.perm (ov_in (o := [])).symm
  rw [e1] at s1
  have s2 : Sx B (o ++ (oj ++ (O1 ++ O2 ++ O0))) G H := s1.perm ((List.Perm.append_left oj ov_out).trans acc_inL)
  refine ⟨w, e2, u, f2, line_le (by show 2 ≤ 1000000; decide), fun l hl => k G Ex.r (.ref l) (o ++ oj) _ _ (s2.grow hl) ((s2.still hl).sub ?_) ⟨l, w, u, o, oj, rfl, upd_same, rfl, p.up (s2.grow hl) ra, q.up (s2.grow hl) rj⟩⟩
  rw [List.append_assoc]
  exact (List.Sublist.refl o).append ((List.Sublist.refl oj).append (List.sublist_append_right _ _))
theorem PoL.get {α : Type} {p : PO α} {a : α} : ∀ {ws : List V} {xs : List α} {o : Ow} {k : Nat}, PoL p G ws xs o → xs[k]? = some a → ∃ v o', ws[k]? = some v ∧ p.rp G v a o' ∧ o'.Sublist o
  | _, _, _, k, .nil, h => by simp at h
  | _, _, _, 0, .cons (v := v) (o := o1) r _, h => by
    cases h
    exact ⟨v, o1, rfl, r, List.sublist_append_left _ _⟩
  | _, _, _, k + 1, .cons _ t, h => by
    obtain ⟨v, o', h1, h2, h3⟩ := t.get (k := k) (by simpa using h)
    exact ⟨v, o', by simpa using h1, h2, h3.trans (List.sublist_append_right _ _)⟩
/-- return xs[e]: an item of an owned list of owned items -/
theorem Rt.itemF {α : Type} {p : PO α} {i : Nat} {xs : List α} {n : W Int} (hi : D[i]? = some (.ov (PO.list p) xs)) (h : EW XP D te n) : Rt XP (rmF p) D (tRet (tOp (rIx K) (tVar i) te)) (n.bind fun j => W.get (PyAt xs j)) := fun B O0 O G H σ Ds fr s q => by
  obtain ⟨O1, o, O2, u, e1, e2, ⟨l, ws, r, h1, h2, h3⟩, _⟩ := fr.ovAt hi
  subst h1; subst h2
  refine ⟨_, e2, h fr s (n.mono (fun j ⟨a, ea, k⟩ w G2 H2 e s2 rw => ?_) (fun _ x => x) q)⟩
  have hl : H2 l = some (.lst ws) := (s2.own (l, .lst ws) (by rw [e1]; simp)).1
  unfold PyAt at ea
  cases en : ixN xs.length j with
  | none => rw [en] at ea; cases ea
  | some m =>
    rw [en] at ea
    obtain ⟨v, o', h4, h5, h6⟩ := h3.get ea
    refine .inl ⟨l, ws, j, v, rfl, rw, SqL.of hl, ?_, k G2 e v o' G2 H2 Ex.r (s2.sub ?_) (p.up e h5)⟩
    · unfold atI
      rw [h3.len, en]
      exact h4
    · rw [e1]
      refine List.Sublist.append ?_ (.refl _)
      refine List.Sublist.trans ?_ (List.sublist_append_left _ _)
      exact (h6.trans (List.sublist_cons_self _ _)).trans (List.sublist_append_right _ _)
theorem EW.lenF {α : Type} {p : PO α} {i : Nat} {xs : List α} (hi : D[i]? = some (.ov (PO.list p) xs)) : EW XP D (tCB (rLen K) (tCons (tVar i) tNil)) (W.pure (xs.length : Int)) := fun B O0 O G H σ Q fr s q => by
  obtain ⟨O1, o, O2, u, e1, e2, ⟨l, ws, r, h1, h2, h3⟩, _⟩ := fr.ovAt hi
  subst h1; subst h2
  have hl : H l = some (.lst ws) := (s.own (l, .lst ws) (by rw [e1]; simp)).1
  exact ⟨_, e2, _, ws.length, rfl, .inl ⟨ws, SqL.of hl, rfl⟩, q _ G H Ex.r s (by rw [h3.len]; rfl)⟩
/-- xs.append(y): y one's own too, from now on a part of xs -/
theorem StW.appendF {α : Type} {p : PO α} {i j : Nat} {xs : List α} {y : α} (hi : D[i]? = some (.ov (PO.list p) xs)) (hj : D[j]? = some (.ov p y)) (ne : i ≠ j) : StW XP D (tDrop (tBM K "list" rAppend (tVar i) (tCons (tVar j) tNil))) (W.chk (xs.length ≤ 1000000) (W.pure (xs ++ [y]))) fun ys => (D.set j .any).set i (.ov (PO.list p) ys) := fun B O0 O G H σ Ds fr s ⟨c, k⟩ => by
  obtain ⟨P1, oj, P2, u, f1, f2, rj, zj⟩ := fr.ovAt hj
  have fr1 := zj G .any (some u) [] Ex.r rfl
  rw [set_same f2] at fr1
  obtain ⟨O1, o, O2, w, e1, e2, ⟨l, ws, r, h1, h2, h3⟩, z⟩ := fr1.ovAt (p := PO.list p) (a := xs) (i := i) (by rw [List.getElem?_set_ne (Ne.symm ne)]; exact hi)
  subst h1; subst h2; subst f1
  have s1 : Sx B (oj ++ (P1 ++ [] ++ P2 ++ O0)) G H := s.perm (ov_in (o := [])).symm
  rw [e1] at s1
  have s2 : Sx B ((l, .lst ws) :: (r ++ (oj ++ (O1 ++ O2 ++ O0)))) G H := s1.perm ((List.Perm.append_left oj ov_out).trans (by
    have := acc_inL (x := oj) (o := (l, HO.lst ws) :: r) (r := O1 ++ O2 ++ O0)
    simpa only [List.cons_append, List.append_assoc] using this))
  have hl := s2.head.1
  refine ⟨_, e2, .inl ⟨rfl, ws, SqL.of hl⟩, u, f2, l, ws, u, rfl, rfl, hl, line_lt (by rw [h3.len]; exact c), ?_⟩
  have f3 := z G (.ov (PO.list p) (xs ++ [y])) (some (.ref l)) ((l, .lst (ws ++ [u])) :: (r ++ oj)) Ex.r ⟨.ref l, rfl, l, ws ++ [u], r ++ oj, rfl, rfl, h3.snoc rj⟩
  rw [set_same e2] at f3
  refine k σ _ G _ Ex.r f3 (s2.put.perm ?_)
  refine List.Perm.trans ?_ ov_out.symm
  simp only [List.cons_append, List.append_assoc]
  exact List.Perm.refl _
theorem StW.appendO {i j : Nat} {xs : List (List α)} {y : List α} (hi : D[i]? = some (.ov (PO.list (PO.list (PO.st (α := α)))) xs)) (hj : D[j]? = some (own y)) (ne : i ≠ j) : StW XP D (tDrop (tBM K "list" rAppend (tVar i) (tCons (tVar j) tNil))) (W.chk (xs.length ≤ 1000000) (W.pure (xs ++ [y]))) fun ys => (D.set j .any).set i (.ov (PO.list (PO.list (PO.st (α := α)))) ys) := fun B O0 O G H σ Ds fr s q => by
  have hl : j < D.length := (List.getElem?_eq_some_iff.mp hj).1
  have := StW.appendF (XP := XP) (K := K) (D := D.set j (.ov (PO.list (PO.st (α := α))) y)) (i := i) (j := j) (p := PO.list (PO.st (α := α))) (xs := xs) (y := y) (by rw [List.getElem?_set_ne (Ne.symm ne)]; exact hi) (by rw [List.getElem?_set_self hl]) ne
  rw [List.set_set] at this
  exact this (ow_ov fr hj) s q
instance : Firm TuS := ⟨fun {G l vs v x} hl h => by
  obtain ⟨a, h1, h2⟩ := h
  exact ⟨a, h1, not_lst hl h2⟩⟩
/-- [e]: e owned -/
theorem EWF.lst1 {α : Type} {p : PO α} {m : W α} (h : EWF XP p D te m) : EWF XP (PO.list p) D (tLst (tCons te tNil)) (m.bind fun a => W.pure [a]) := fun B O0 O G H σ Q fr s q => h fr s (m.mono (fun a k v o G2 H2 e s2 r => ⟨line_le (by show 1 ≤ 1000000; decide), fun l hl => k (.ref l) ((l, .lst [v]) :: (o ++ [])) G2 _ e (by rw [List.append_nil]; exact s2.mine hl) ⟨l, [v], o ++ [], rfl, rfl, .cons r .nil⟩⟩) (fun _ x => x) q)
theorem EWN.ofF {m : W (List α)} (h : EWF XP (PO.list (PO.st (α := α))) D te m) : EWN XP D te m := fun B O0 O G H σ Q fr s q => h fr s (m.mono (fun xs k v o G2 H2 e s2 ⟨l, ws, r, h1, h2, h3⟩ => by
  obtain ⟨h4, h5⟩ := h3.to
  subst h5; subst h1; subst h2
  exact k l ws G2 H2 e s2 h4) (fun _ x => x) q)
theorem EWF.callD {γ : Type} {p : PO γ} {ta : TA} {ar : AR A} {dvs : List V} {ma : W A} {m : A → W γ} {E : XK} (h : EWAD XP0 D ta ar dvs ma) : EWF XP0 p D (tCall (SpF' p XE0 ar m) dvs E ta) (ma.bind m) := fun B O0 O G H σ Q fr s q =>
  h fr s (ma.mono (fun a k vs G2 H2 e s2 r => ⟨B, O ++ O0, G2, a, s2, r, (m a).mono (fun x k2 v o G3 H3 e3 => k2 v o G3 H3 (Ex.t e e3)) (fun x hx => (PX0 x hx).elim) k⟩) (fun _ x => x) q)
theorem EWF.callK {γ : Type} {p : PO γ} {n : Nat} {ta tk : TA} {ar : AR A} {ma : W A} {m : A → W γ} {E : XK} (h : EWAK XP0 D ta tk n ar ma) : EWF XP0 p D (tCallN n 1 (SpF' p XE0 ar m) (fun vs zs => vs ++ zs) E ta tk) (ma.bind m) := fun B O0 O G H σ Q fr s q =>
  h fr s (ma.mono (fun a k vs zs G2 H2 e s2 l1 l2 r => ⟨l1, l2, B, O ++ O0, G2, a, s2, r, (m a).mono (fun x k2 v o G3 H3 e3 => k2 v o G3 H3 (Ex.t e e3)) (fun x hx => (PX0 x hx).elim) k⟩) (fun _ x => x) q)
end
end Dk

set_option Elab.async false
set_option linter.all false
set_option maxRecDepth 100000
set_option maxHeartbeats 1000000
namespace Dk
open PySem PySem.Spec PyProof.Rows L2
open Evl (Ex)
open Py (rp)
open PyD (pic)
open PySem.W (Datum DatumOrd)
/-! ### data with an order -/
class Od (α : Type) [DecidableEq α] [PyD α] [DatumOrd α] : Prop where
  same : ∀ a : α, pic a = Datum.toD a
  tr : ∀ a b c : α, DatumOrd.lt b a = false → DatumOrd.lt c b = false → DatumOrd.lt c a = false
  anti : ∀ a b : α, DatumOrd.lt a b = false → DatumOrd.lt b a = false → a = b
  asy : ∀ a b : α, DatumOrd.lt a b = true → DatumOrd.lt b a = false
  kind : (∀ a : α, ∃ x r, pic a = .tuple (x :: r)) ∨ (∀ a : α, pic a ≠ .none ∧ ∀ xs, pic a ≠ .tuple xs)
abbrev lt {α : Type} [DecidableEq α] [DatumOrd α] (a b : α) : Bool := DatumOrd.lt a b
section
variable {α : Type} [DecidableEq α] [PyD α] [DatumOrd α] [o : Od α]
theorem Od.irr (a : α) : DatumOrd.lt a a = false := by
  cases h : DatumOrd.lt a a with
  | false => rfl
  | true => exact (h.symm.trans (Od.asy a a h))
theorem od_map (xs : List α) : xs.map pic = xs.map Datum.toD := List.map_congr_left fun a _ => Od.same a
theorem od_le (a b : α) : (!DatumOrd.lt b a) = true ↔ DatumOrd.lt b a = false := by simp
/-- the least: first found, none is less -/
theorem minOf_mem (x : α) : ∀ xs : List α, PySem.W.minOf x xs ∈ x :: xs := fun xs => by
  unfold PySem.W.minOf
  induction xs generalizing x with
  | nil => exact List.mem_singleton.mpr rfl
  | cons y ys ih =>
    rw [List.foldl_cons]
    have := ih (if DatumOrd.lt y x = true then y else x)
    rcases List.mem_cons.mp this with h | h
    · rw [h]; split <;> simp
    · exact List.mem_cons_of_mem _ (List.mem_cons_of_mem _ h)
theorem minOf_le (x : α) : ∀ xs : List α, ∀ y ∈ x :: xs, DatumOrd.lt y (PySem.W.minOf x xs) = false := fun xs => by
  unfold PySem.W.minOf
  induction xs generalizing x with
  | nil => intro y hy; rw [List.mem_singleton.mp hy]; exact Od.irr x
  | cons z ys ih =>
    intro y hy
    rw [List.foldl_cons]
    have key := ih (if DatumOrd.lt z x = true then z else x)
    rcases List.mem_cons.mp hy with rfl | hy
    · have h1 := key _ (List.mem_cons_self ..)
      by_cases c : DatumOrd.lt z y = true
      · rw [if_pos c] at h1 ⊢
        exact Od.tr _ z _ h1 (Od.asy _ _ c)
      · rw [if_neg c] at h1 ⊢
        exact h1
    · rcases List.mem_cons.mp hy with rfl | hy
      · have h1 := key _ (List.mem_cons_self ..)
        by_cases c : DatumOrd.lt y x = true
        · rw [if_pos c] at h1 ⊢
          exact h1
        · rw [if_neg c] at h1 ⊢
          exact Od.tr _ x _ h1 (by simpa using c)
      · exact key y (List.mem_cons_of_mem _ hy)
theorem maxOf_mem (x : α) : ∀ xs : List α, PySem.W.maxOf x xs ∈ x :: xs := fun xs => by
  unfold PySem.W.maxOf
  induction xs generalizing x with
  | nil => exact List.mem_singleton.mpr rfl
  | cons y ys ih =>
    rw [List.foldl_cons]
    have := ih (if DatumOrd.lt x y = true then y else x)
    rcases List.mem_cons.mp this with h | h
    · rw [h]; split <;> simp
    · exact List.mem_cons_of_mem _ (List.mem_cons_of_mem _ h)
theorem maxOf_le (x : α) : ∀ xs : List α, ∀ y ∈ x :: xs, DatumOrd.lt (PySem.W.maxOf x xs) y = false := fun xs => by
  unfold PySem.W.maxOf
  induction xs generalizing x with
  | nil => intro y hy; rw [List.mem_singleton.mp hy]; exact Od.irr x
  | cons z ys ih =>
    intro y hy
    rw [List.foldl_cons]
    have key := ih (if DatumOrd.lt x z = true then z else x)
    rcases List.mem_cons.mp hy with rfl | hy
    · have h1 := key _ (List.mem_cons_self ..)
      by_cases c : DatumOrd.lt y z = true
      · rw [if_pos c] at h1 ⊢
        exact Od.tr _ z _ (Od.asy _ _ c) h1
      · rw [if_neg c] at h1 ⊢
        exact h1
    · rcases List.mem_cons.mp hy with rfl | hy
      · have h1 := key _ (List.mem_cons_self ..)
        by_cases c : DatumOrd.lt x y = true
        · rw [if_pos c] at h1 ⊢
          exact h1
        · rw [if_neg c] at h1 ⊢
          exact Od.tr _ x _ (by simpa using c) h1
      · exact key y (List.mem_cons_of_mem _ hy)
end
theorem lex_le {α : Type} [DecidableEq α] {f : α → α → Bool} {a b : α} {x : Bool} (irr : ∀ a, f a a = false) : (if a = b then x else f a b) = false ↔ f a b = false ∧ (a = b → x = false) := by
  by_cases h : a = b
  · subst h
    rw [if_pos rfl, irr a]
    exact ⟨fun e => ⟨rfl, fun _ => e⟩, fun e => e.2 rfl⟩
  · rw [if_neg h]
    exact ⟨fun e => ⟨e, fun q => absurd q h⟩, fun e => e.1⟩
instance : Od Int where
  same _ := rfl
  tr a b c h g := by
    have h : ¬ b < a := of_decide_eq_false h
    have g : ¬ c < b := of_decide_eq_false g
    exact decide_eq_false (by omega)
  anti a b h g := by
    have h : ¬ a < b := of_decide_eq_false h
    have g : ¬ b < a := of_decide_eq_false g
    omega
  asy a b h := by
    have h : a < b := of_decide_eq_true h
    exact decide_eq_false (by omega)
  kind := .inr fun a => ⟨(fun e => by cases e), fun xs e => by cases e⟩
instance : Od Str where
  same _ := rfl
  tr a b c h g := ltS_tr h g
  anti a b h g := ltS_anti h g
  asy a b h := ltS_asym h
  kind := .inr fun a => ⟨(fun e => by cases e), fun xs e => by cases e⟩
section
variable {α β γ : Type} [DecidableEq α] [DecidableEq β] [DecidableEq γ] [PyD α] [PyD β] [PyD γ] [DatumOrd α] [DatumOrd β] [DatumOrd γ] [Od α] [Od β] [Od γ]
theorem lt_pair (p q : α × β) : DatumOrd.lt q p = false ↔ DatumOrd.lt q.1 p.1 = false ∧ (q.1 = p.1 → DatumOrd.lt q.2 p.2 = false) := lex_le (f := DatumOrd.lt) Od.irr
instance : Od (α × β) where
  same a := by
    show PyData.tuple [pic a.1, pic a.2] = .tuple [Datum.toD a.1, Datum.toD a.2]
    rw [Od.same, Od.same]
  tr a b c h g := by
    rw [lt_pair] at h g ⊢
    refine ⟨Od.tr _ _ _ h.1 g.1, fun e => ?_⟩
    have e1 : b.1 = a.1 := Od.anti _ _ h.1 (by rw [← e]; exact g.1)
    exact Od.tr _ _ _ (h.2 e1) (g.2 (e.trans e1.symm))
  anti a b h g := by
    rw [lt_pair] at h g
    have e := Od.anti _ _ h.1 g.1
    exact Prod.ext e (Od.anti _ _ (h.2 e) (g.2 e.symm))
  asy a b h := by
    have h : (if a.1 = b.1 then DatumOrd.lt a.2 b.2 else DatumOrd.lt a.1 b.1) = true := h
    rw [lt_pair]
    by_cases e : a.1 = b.1
    · rw [if_pos e] at h
      exact ⟨by rw [e]; exact Od.irr _, fun _ => Od.asy _ _ h⟩
    · rw [if_neg e] at h
      exact ⟨Od.asy _ _ h, fun q => absurd q.symm e⟩
  kind := .inl fun a => ⟨_, _, rfl⟩
open PySem.W (alikeAll alikeAll_map listLt dataLt_all_yes dataLt_all_no dataLt_tuple)
theorem t3_alike (p q : Tp3 α β γ) : PySem.W.alike (.tuple [Datum.toD p.x1, Datum.toD p.x2, Datum.toD p.x3]) (.tuple [Datum.toD q.x1, Datum.toD q.x2, Datum.toD q.x3]) = true := by
  simp only [PySem.W.alike, alikeAll, DatumOrd.alike, Bool.and_self]
theorem deq {α : Type} [DecidableEq α] [Datum α] {x y : α} (h : x = y) : PyData.eqv (Datum.toD x) (Datum.toD y) = true := by rw [Datum.eqv]; exact decide_eq_true h
theorem dne {α : Type} [DecidableEq α] [Datum α] {x y : α} (h : x ≠ y) : PyData.eqv (Datum.toD x) (Datum.toD y) = false := by rw [Datum.eqv]; exact decide_eq_false h
instance : DatumOrd (Tp3 α β γ) where
  toD p := .tuple [Datum.toD p.x1, Datum.toD p.x2, Datum.toD p.x3]
  plain p := by simp only [PyData.plain, PyData.plainAll, Datum.plain]; rfl
  eqv p q := by
    simp only [PyData.eqv, PyData.eqvAll, Datum.eqv, Bool.and_true]
    rw [← Bool.decide_and, ← Bool.decide_and]
    refine decide_eq_decide.mpr ⟨fun h => ?_, fun h => by rw [h]; exact ⟨rfl, rfl, rfl⟩⟩
    obtain ⟨p1, p2, p3⟩ := p
    obtain ⟨q1, q2, q3⟩ := q
    obtain ⟨h1, h2, h3⟩ := h
    cases h1; cases h2; cases h3; rfl
  depth := max (max (Datum.depth α) (Datum.depth β)) (Datum.depth γ) + 1
  depth_le p := by
    simp only [PyData.depth, PyData.depthAll]
    have h1 := Datum.depth_le p.x1
    have h2 := Datum.depth_le p.x2
    have h3 := Datum.depth_le p.x3
    omega
  lt p q := if p.x1 = q.x1 then (if p.x2 = q.x2 then DatumOrd.lt p.x3 q.x3 else DatumOrd.lt p.x2 q.x2) else DatumOrd.lt p.x1 q.x1
  alike p q := t3_alike p q
  notNone p := fun e => nomatch e
  lt_eq p q := by
    rw [dataLt_tuple]
    by_cases h1 : p.x1 = q.x1
    · rw [if_pos h1, dataLt_all_yes (DatumOrd.alike _ _) (deq h1)]
      by_cases h2 : p.x2 = q.x2
      · rw [if_pos h2, dataLt_all_yes (DatumOrd.alike _ _) (deq h2)]
        by_cases h3 : p.x3 = q.x3
        · rw [dataLt_all_yes (DatumOrd.alike _ _) (deq h3), h3, Od.irr]
          exact lex_irrefl _
        · rw [dataLt_all_no (DatumOrd.alike _ _) (dne h3)]
          exact DatumOrd.lt_eq _ _
      · rw [if_neg h2, dataLt_all_no (DatumOrd.alike _ _) (dne h2)]
        exact DatumOrd.lt_eq _ _
    · rw [if_neg h1, dataLt_all_no (DatumOrd.alike _ _) (dne h1)]
      exact DatumOrd.lt_eq _ _
theorem lt_tp3 (p q : Tp3 α β γ) : DatumOrd.lt q p = false ↔ DatumOrd.lt q.x1 p.x1 = false ∧ (q.x1 = p.x1 → DatumOrd.lt q.x2 p.x2 = false ∧ (q.x2 = p.x2 → DatumOrd.lt q.x3 p.x3 = false)) := by
  refine (lex_le (f := DatumOrd.lt) Od.irr).trans ⟨fun h => ⟨h.1, fun e => (lex_le (f := DatumOrd.lt) Od.irr).mp (h.2 e)⟩, fun h => ⟨h.1, fun e => (lex_le (f := DatumOrd.lt) Od.irr).mpr (h.2 e)⟩⟩
instance : Od (Tp3 α β γ) where
  same a := by
    show PyData.tuple [pic a.x1, pic a.x2, pic a.x3] = .tuple [Datum.toD a.x1, Datum.toD a.x2, Datum.toD a.x3]
    rw [Od.same, Od.same, Od.same]
  tr a b c h g := by
    rw [lt_tp3] at h g ⊢
    refine ⟨Od.tr _ _ _ h.1 g.1, fun e => ?_⟩
    have e1 : b.x1 = a.x1 := Od.anti _ _ h.1 (by rw [← e]; exact g.1)
    obtain ⟨h3, h4⟩ := h.2 e1
    obtain ⟨g3, g4⟩ := g.2 (e.trans e1.symm)
    refine ⟨Od.tr _ _ _ h3 g3, fun e2 => ?_⟩
    have e3 : b.x2 = a.x2 := Od.anti _ _ h3 (by rw [← e2]; exact g3)
    exact Od.tr _ _ _ (h4 e3) (g4 (e2.trans e3.symm))
  anti a b h g := by
    rw [lt_tp3] at h g
    have e := Od.anti _ _ h.1 g.1
    obtain ⟨h3, h4⟩ := h.2 e
    obtain ⟨g3, g4⟩ := g.2 e.symm
    have e2 := Od.anti _ _ h3 g3
    have e3 := Od.anti _ _ (h4 e2) (g4 e2.symm)
    obtain ⟨a1, a2, a3⟩ := a
    obtain ⟨b1, b2, b3⟩ := b
    cases e; cases e2; cases e3; rfl
  asy a b h := by
    have h : (if a.x1 = b.x1 then (if a.x2 = b.x2 then DatumOrd.lt a.x3 b.x3 else DatumOrd.lt a.x2 b.x2) else DatumOrd.lt a.x1 b.x1) = true := h
    rw [lt_tp3]
    by_cases e : a.x1 = b.x1
    · rw [if_pos e] at h
      refine ⟨by rw [e]; exact Od.irr _, fun _ => ?_⟩
      by_cases e2 : a.x2 = b.x2
      · rw [if_pos e2] at h
        exact ⟨by rw [e2]; exact Od.irr _, fun _ => Od.asy _ _ h⟩
      · rw [if_neg e2] at h
        exact ⟨Od.asy _ _ h, fun q => absurd q.symm e2⟩
    · rw [if_neg e] at h
      exact ⟨Od.asy _ _ h, fun q => absurd q.symm e⟩
  kind := .inl fun a => ⟨_, _, rfl⟩
theorem lt_cons (x y : α) (xs ys : List α) : listLt (y :: ys) (x :: xs) = false ↔ DatumOrd.lt y x = false ∧ (y = x → listLt ys xs = false) := by
  rw [listLt]
  exact lex_le (f := DatumOrd.lt) Od.irr
theorem listLt_tr : ∀ a b c : List α, listLt b a = false → listLt c b = false → listLt c a = false
  | [], _, [], _, _ => by rw [listLt]
  | [], _, _ :: _, _, _ => by rw [listLt]
  | x :: a, [], c, h, _ => by rw [listLt] at h; cases h
  | x :: a, y :: b, [], _, g => by rw [listLt] at g; cases g
  | x :: a, y :: b, z :: c, h, g => by
    rw [lt_cons] at h g ⊢
    refine ⟨Od.tr _ _ _ h.1 g.1, fun e => ?_⟩
    have e1 : y = x := Od.anti _ _ h.1 (by rw [← e]; exact g.1)
    exact listLt_tr a b c (h.2 e1) (g.2 (e.trans e1.symm))
theorem listLt_anti : ∀ a b : List α, listLt a b = false → listLt b a = false → a = b
  | [], [], _, _ => rfl
  | [], y :: b, h, _ => by rw [listLt] at h; cases h
  | x :: a, [], _, g => by rw [listLt] at g; cases g
  | x :: a, y :: b, h, g => by
    rw [lt_cons] at h g
    have e := Od.anti _ _ h.1 g.1
    rw [e, listLt_anti a b (h.2 e) (g.2 e.symm)]
theorem listLt_asy : ∀ a b : List α, listLt a b = true → listLt b a = false
  | [], [], h => by rw [listLt]
  | [], y :: b, h => by rw [listLt]
  | x :: a, [], h => by rw [listLt] at h; cases h
  | x :: a, y :: b, h => by
    rw [listLt] at h
    rw [lt_cons]
    by_cases e : x = y
    · rw [if_pos e] at h
      exact ⟨by rw [e]; exact Od.irr _, fun _ => listLt_asy a b h⟩
    · rw [if_neg e] at h
      exact ⟨Od.asy _ _ h, fun q => absurd q.symm e⟩
instance : Od (List α) where
  same a := by
    show PyData.list (a.map pic) = .list (a.map Datum.toD)
    rw [od_map]
  tr := listLt_tr
  anti := listLt_anti
  asy := listLt_asy
  kind := .inr fun a => ⟨(fun e => by cases e), fun xs e => by cases e⟩
end
/-! ### the calls -/
def rMinO (K : PySem.W.Frag) (α : Type) [DecidableEq α] [DatumOrd α] : List V → Hp → VK → Prop := fun vs H Q => ∃ (a : Addr) (ws : List V) (x : α) (xs : List α), vs = [V.ref a] ∧ SqL K H a ws ∧ DpAll K H ws ((x :: xs).map Datum.toD) ∧
  ∀ (i : Nat) (w : V), ws[i]? = some w → (x :: xs)[i]? = some (PySem.W.minOf x xs) → Q w H
def rMaxO (K : PySem.W.Frag) (α : Type) [DecidableEq α] [DatumOrd α] : List V → Hp → VK → Prop := fun vs H Q => ∃ (a : Addr) (ws : List V) (x : α) (xs : List α), vs = [V.ref a] ∧ SqL K H a ws ∧ DpAll K H ws ((x :: xs).map Datum.toD) ∧
  ∀ (i : Nat) (w : V), ws[i]? = some w → (x :: xs)[i]? = some (PySem.W.maxOf x xs) → Q w H
def rMinDO (K : PySem.W.Frag) (α : Type) [DecidableEq α] [DatumOrd α] : List V → List V → Hp → VK → Prop := fun vs zs H Q => ∃ (a : Addr) (ws : List V) (xs : List α) (d : V), vs = [V.ref a] ∧ zs = [d] ∧ SqL K H a ws ∧ DpAll K H ws (xs.map Datum.toD) ∧
  (xs = [] → Q d H) ∧ ∀ (x : α) (r : List α) (i : Nat) (w : V), xs = x :: r → ws[i]? = some w → xs[i]? = some (PySem.W.minOf x r) → Q w H
def rSrtO (K : PySem.W.Frag) (α : Type) [DecidableEq α] [DatumOrd α] : List V → Hp → VK → Prop := fun vs H Q => ∃ (a : Addr) (ps : List (V × α)), vs = [V.ref a] ∧ SqL K H a (ps.map (·.1)) ∧ DpAll K H (ps.map (·.1)) (ps.map fun p => Datum.toD p.2) ∧ ps.length ≤ 1000000 ∧
  ∀ (out : List (V × α)) (l : Addr), out.Perm ps → (out.Pairwise fun p q => DatumOrd.lt q.2 p.2 = false) → H l = none → Q (.ref l) (upd H l (.lst (out.map (·.1))))
theorem vals_back : ∀ {xs : List V} {us : List Value} {i : Nat} {u : Value}, Vals xs us → us[i]? = some u → ∃ x, xs[i]? = some x ∧ RelV x u
  | _, _, _, _, .nil, e => by simp at e
  | _, _, 0, _, .cons r _, e => by simp at e; subst e; exact ⟨_, rfl, r⟩
  | _, _, i + 1, u, .cons _ t, e => by
    obtain ⟨x, h1, h2⟩ := vals_back (i := i) (u := u) t (by simpa using e)
    exact ⟨x, by simpa using h1, h2⟩
section
variable {α : Type} [DecidableEq α] [PyD α] [DatumOrd α] [Od α] {X : Cx} {K : PySem.W.Frag}
theorem toD_inj {x y : α} (h : Datum.toD x = Datum.toD y) : x = y := by
  have := deq (rfl : x = x)
  rw [show Datum.toD x = Datum.toD y from h] at this
  have h2 : PyData.eqv (Datum.toD x) (Datum.toD y) = true := by rw [h]; exact this
  rw [Datum.eqv] at h2
  exact of_decide_eq_true h2
theorem holds_same {h : Heap} {v : Value} {x y : α} (a : PySem.W.Holds h v x) (b : PySem.W.Holds h v y) : x = y := by
  obtain ⟨as, ra⟩ := a
  obtain ⟨bs, rb⟩ := b
  exact toD_inj ((PySem.SeqAt.readOf_plain (Datum.plain x) ra).symm.trans (PySem.SeqAt.readOf_plain (Datum.plain y) rb))
theorem unitsO (hu : X.A.units + 64 < cLine) (hd : Datum.depth α ≤ 40) : X.A.units + 1 + Datum.depth α < cLine := by omega
theorem minOQ (h : X.K = K) (hc : X.calm = true) (hu : X.A.units + 64 < cLine) (hd : Datum.depth α ≤ 40) : CallR X (.builtin "min") (rMinO K α) := by
  subst h
  intro pins s σ H vs us Q I r h
  obtain ⟨a, ws, x, xs, rfl, hs, hdp, q⟩ := h
  obtain ⟨its, rv, hl, _⟩ := I.list hs
  rw [Vals.ref1 r]
  obtain ⟨as, rs⟩ := Dp.readsAll I _ _ _ hdp rv
  refine PySem.W.min_list_datum (vs := its.toArray) (x := x) (xs := xs) (I.ok.hd hc) hl.isList ⟨as, by simpa using rs⟩ (unitsO hu hd) fun i v h' tk hi hm hk => ?_
  have hi : its[i]? = some v := by simpa using hi
  obtain ⟨y, hy, hv⟩ := PySem.W.HoldAll.at (⟨as, rs⟩ : PySem.W.HoldAll s.heap its (x :: xs)) hi
  have e := holds_same (hv.keeps hk) hm
  obtain ⟨w, hw, rw'⟩ := vals_back rv hi
  exact ⟨w, H, I.kept hk, rw', q i w hw (e ▸ hy)⟩
theorem maxOQ (h : X.K = K) (hc : X.calm = true) (hu : X.A.units + 64 < cLine) (hd : Datum.depth α ≤ 40) : CallR X (.builtin "max") (rMaxO K α) := by
  subst h
  intro pins s σ H vs us Q I r h
  obtain ⟨a, ws, x, xs, rfl, hs, hdp, q⟩ := h
  obtain ⟨its, rv, hl, _⟩ := I.list hs
  rw [Vals.ref1 r]
  obtain ⟨as, rs⟩ := Dp.readsAll I _ _ _ hdp rv
  refine PySem.W.max_list_datum (vs := its.toArray) (x := x) (xs := xs) (I.ok.hd hc) hl.isList ⟨as, by simpa using rs⟩ (unitsO hu hd) fun i v h' tk hi hm hk => ?_
  have hi : its[i]? = some v := by simpa using hi
  obtain ⟨y, hy, hv⟩ := PySem.W.HoldAll.at (⟨as, rs⟩ : PySem.W.HoldAll s.heap its (x :: xs)) hi
  have e := holds_same (hv.keeps hk) hm
  obtain ⟨w, hw, rw'⟩ := vals_back rv hi
  exact ⟨w, H, I.kept hk, rw', q i w hw (e ▸ hy)⟩
theorem minDOQ (h : X.K = K) (hc : X.calm = true) (hu : X.A.units + 64 < cLine) (hd : Datum.depth α ≤ 40) : CallRK X (.builtin "min") [Str.ofString "default"] (rMinDO K α) := by
  subst h
  intro pins s σ H vs zs us ws' Q I r rz h
  obtain ⟨a, ws, xs, d, rfl, rfl, hs, hdp, q0, q⟩ := h
  obtain ⟨its, rv, hl, _⟩ := I.list hs
  rw [Vals.ref1 r]
  obtain ⟨dv, rfl, rd⟩ := Vals.one rz
  obtain ⟨as, rs⟩ := Dp.readsAll I _ _ _ hdp rv
  refine PySem.W.min_list_datum_default (vs := its.toArray) (xs := xs) (d := dv) (I.ok.hd hc) hl.isList ⟨as, by simpa using rs⟩ (unitsO hu hd) (fun e h' tk hk => ⟨d, H, I.kept hk, rd, q0 e⟩) fun x r i v h' tk e hi hm hk => ?_
  subst e
  have hi : its[i]? = some v := by simpa using hi
  obtain ⟨y, hy, hv⟩ := PySem.W.HoldAll.at (⟨as, rs⟩ : PySem.W.HoldAll s.heap its (x :: r)) hi
  have e := holds_same (hv.keeps hk) hm
  obtain ⟨w, hw, rw'⟩ := vals_back rv hi
  exact ⟨w, H, I.kept hk, rw', q x r i w rfl hw (e ▸ hy)⟩
theorem each_of {ps : List (V × α)} : ∀ {us : List Value}, Vals (ps.map (·.1)) us → PySem.W.EachIs (fun u p => RelV p.1 u) us ps := by
  induction ps with
  | nil => intro us r; cases r; exact .nil
  | cons p ps ih => intro us r; cases r with | cons a t => exact .cons a (ih t)
theorem each_to {ps : List (V × α)} : ∀ {us : List Value}, PySem.W.EachIs (fun u p => RelV p.1 u) us ps → Vals (ps.map (·.1)) us := by
  induction ps with
  | nil => intro us r; cases r; exact .nil
  | cons p ps ih => intro us r; cases r with | cons a t => exact .cons a (ih t)
theorem each_reads {h : Heap} {ps : List (V × α)} : ∀ {us : List Value} {as : List Addr}, ReadsAll h us (ps.map fun p => Datum.toD p.2) as → PySem.W.EachIs (fun u (p : V × α) => ∃ as, Reads h u (Datum.toD p.2) as) us ps := by
  induction ps with
  | nil => intro us as r; cases r; exact .nil
  | cons p ps ih => intro us as r; cases r with | cons a t => exact .cons ⟨_, a⟩ (ih t)
theorem srtO_pw (ps : List (V × α)) : (ps.mergeSort (PySem.W.dataLe false fun p : V × α => Datum.toD p.2)).Pairwise fun p q => DatumOrd.lt q.2 p.2 = false := by
  have e : ∀ a b : V × α, PySem.W.dataLe false (fun p : V × α => Datum.toD p.2) a b = !DatumOrd.lt b.2 a.2 := fun a b => by
    rw [PySem.W.dataLe_eq]
    show (!PySem.W.dataLt _ _) = _
    rw [DatumOrd.lt_eq]
  have h := List.pairwise_mergeSort (le := PySem.W.dataLe false fun p : V × α => Datum.toD p.2) (fun a b c h1 h2 => by
    rw [e] at h1 h2 ⊢
    rw [od_le] at h1 h2 ⊢
    exact Od.tr _ _ _ h1 h2) (fun a b => by
    rw [e, e]
    cases h : DatumOrd.lt b.2 a.2 with
    | false => rfl
    | true => rw [Od.asy _ _ h]; rfl) ps
  exact h.imp fun {a b} q => by
    rw [e, od_le] at q
    exact q
theorem srtOQ (h : X.K = K) (hu : X.A.units + 64 < cLine) (hd : Datum.depth α ≤ 40) : CallR X (.builtin "sorted") (rSrtO K α) := by
  subst h
  intro pins s σ H vs us Q I r h
  obtain ⟨a, ps, rfl, hs, hdp, hn, q⟩ := h
  obtain ⟨its, rv, hl, _⟩ := I.list hs
  rw [Vals.ref1 r]
  obtain ⟨as, rs⟩ := Dp.readsAll I _ _ _ hdp rv
  have hk : PySem.W.Sortable (ps.map fun p => Datum.toD p.2) := by
    rcases Od.kind (α := α) with k | k
    · exact .tuples fun p => by rw [← Od.same]; exact k p.2
    · exact .others fun p => by rw [← Od.same]; exact k p.2
  refine PySem.W.sorted_data (vs := its) (bs := ps) (enc := fun p => Datum.toD p.2) (R := fun u p => RelV p.1 u) hl.isList (each_of rv) (each_reads rs) (PySem.W.AllAlike.of fun p q => DatumOrd.alike p.2 q.2) hk (by rw [sizeLine_eq]; omega)
    (fun p _ => by have := Datum.depth_le p.2; show X.A.units + 2 + (Datum.toD p.2).depth < cLine; omega) fun out ho he => ?_
  have rv2 := each_to he
  obtain ⟨ep, he'⟩ := PyProof.Rows.sortedAll_at s.heap its out.toArray
  have pm := List.mergeSort_perm ps (PySem.W.dataLe false fun p : V × α => Datum.toD p.2)
  have hlen : ((ps.mergeSort (PySem.W.dataLe false fun p : V × α => Datum.toD p.2)).map (·.1)).length ≤ sizeLine := by rw [List.length_map, pm.length_eq, sizeLine_eq]; omega
  exact ⟨.ref _, upd H (s.heap.objs.size + 1) (.lst _), I.laid (t' := s.toks) (fun _ _ => PyProof.Rows.sortedAll_old) (Nat.le_succ _) ⟨hlen, out, ep, rv2, he'⟩, rfl, q _ _ pm (srtO_pw ps) (I.hok.fresh (Nat.le_succ _))⟩
end
section
variable {α : Type} [DecidableEq α] [PyD α] [DatumOrd α] [Od α] {XP : XPost} {D : List Sl} {te ta td : TE} {K : PySem.W.Frag}
theorem dp_toD {G H : Hp} (e : Ex G H) {vs : List V} {xs : List α} (h : All2 G vs xs) : DpAll K H vs (xs.map Datum.toD) := by
  rw [← od_map]
  exact dp_all e h
theorem EW.minO {m : W (List α)} (h : EW XP D te m) : EW XP D (tCB (rMinO K α) (tCons te tNil)) (m.bind fun xs => W.chk (xs ≠ []) (W.pick fun i => i ∈ xs ∧ ∀ y ∈ xs, DatumOrd.lt y i = false)) := EW.lift (C := fun t => tCB (rMinO K α) (tCons t tNil)) h (fun _ _ _ _ => rfl) fun x v G B O σ r => fun G1 H1 e s Q E ⟨c, q⟩ => by
  obtain ⟨a, vs, rfl, ha, ra⟩ := r
  cases x with
  | nil => exact absurd rfl c
  | cons x xs =>
    refine ⟨a, vs, x, xs, rfl, SqL.of (s.ex a _ (e a _ ha)), dp_toD s.ex (all2_up e ra), fun i w hw hx => ?_⟩
    obtain ⟨u, hu, ru⟩ := all2_get (all2_up e ra) hx
    obtain rfl : w = u := Option.some.inj (hw.symm.trans hu)
    exact q _ ⟨minOf_mem x xs, minOf_le x xs⟩ _ G1 H1 Ex.r s ru
theorem EW.maxO {m : W (List α)} (h : EW XP D te m) : EW XP D (tCB (rMaxO K α) (tCons te tNil)) (m.bind fun xs => W.chk (xs ≠ []) (W.pick fun i => i ∈ xs ∧ ∀ y ∈ xs, DatumOrd.lt i y = false)) := EW.lift (C := fun t => tCB (rMaxO K α) (tCons t tNil)) h (fun _ _ _ _ => rfl) fun x v G B O σ r => fun G1 H1 e s Q E ⟨c, q⟩ => by
  obtain ⟨a, vs, rfl, ha, ra⟩ := r
  cases x with
  | nil => exact absurd rfl c
  | cons x xs =>
    refine ⟨a, vs, x, xs, rfl, SqL.of (s.ex a _ (e a _ ha)), dp_toD s.ex (all2_up e ra), fun i w hw hx => ?_⟩
    obtain ⟨u, hu, ru⟩ := all2_get (all2_up e ra) hx
    obtain rfl : w = u := Option.some.inj (hw.symm.trans hu)
    exact q _ ⟨maxOf_mem x xs, maxOf_le x xs⟩ _ G1 H1 Ex.r s ru
/-- min(xs, default=None) -/
def LeastO {α : Type} [DecidableEq α] [DatumOrd α] (xs : List α) : Option α → Prop
  | none => xs = []
  | some i => i ∈ xs ∧ ∀ y ∈ xs, DatumOrd.lt y i = false
theorem EW.minN {m : W (List α)} (h : EW XP D te m) : EW (α := Option α) XP D (tCKw (rMinDO K α) (tCons te tNil) (tCons (tC .non) tNil)) (m.bind fun xs => W.pick (LeastO xs)) := EW.lift (C := fun t => tCKw (rMinDO K α) (tCons t tNil) (tCons (tC .non) tNil)) h (fun _ _ _ _ => rfl) fun x v G B O σ r => fun G1 H1 e s Q E q => by
  obtain ⟨a, vs, rfl, ha, ra⟩ := r
  refine ⟨a, vs, x, .non, rfl, rfl, SqL.of (s.ex a _ (e a _ ha)), dp_toD s.ex (all2_up e ra), fun h0 => q none h0 _ G1 H1 Ex.r s rfl, fun y r i w hc hw hx => ?_⟩
  obtain ⟨u, hu, ru⟩ := all2_get (all2_up e ra) hx
  obtain rfl : w = u := Option.some.inj (hw.symm.trans hu)
  subst hc
  exact q (some _) ⟨minOf_mem y r, minOf_le y r⟩ _ G1 H1 Ex.r s ru
theorem zip_fst {G : Hp} : ∀ {vs : List V} {xs : List α}, All2 G vs xs → (vs.zip xs).map (·.1) = vs ∧ (vs.zip xs).map (·.2) = xs
  | _, _, .nil => ⟨rfl, rfl⟩
  | _, _, .cons r t => ⟨by rw [List.zip_cons_cons, List.map_cons, (zip_fst t).1], by rw [List.zip_cons_cons, List.map_cons, (zip_fst t).2]⟩
theorem zip_rel {G : Hp} : ∀ {vs : List V} {xs : List α}, All2 G vs xs → ∀ p ∈ vs.zip xs, rp G p.1 p.2
  | _, _, .nil, p, h => by simp at h
  | _, _, .cons r t, p, h => by
    rw [List.zip_cons_cons] at h
    rcases List.mem_cons.mp h with rfl | h
    · exact r
    · exact zip_rel t p h
theorem all2_pairs {G : Hp} : ∀ {ps : List (V × α)}, (∀ p ∈ ps, rp G p.1 p.2) → All2 G (ps.map (·.1)) (ps.map (·.2))
  | [], _ => .nil
  | p :: ps, h => .cons (h p (List.mem_cons_self ..)) (all2_pairs fun q hq => h q (List.mem_cons_of_mem _ hq))
theorem EWN.sortO {m : W (List α)} (h : EW XP D te m) : EWN XP D (tCB (rSrtO K α) (tCons te tNil)) (m.bind fun xs => W.chk (xs.length ≤ 1000000) (W.pick fun ys => ys.Perm xs ∧ ys.Pairwise fun p q => DatumOrd.lt q p = false)) := EWN.lift (C := fun t => tCB (rSrtO K α) (tCons t tNil)) h (fun _ _ _ _ => rfl) fun x v G B O σ r => fun G1 H1 e s Q E ⟨c, q⟩ => by
  obtain ⟨a, vs, rfl, ha, ra⟩ := r
  have ra' := all2_up e ra
  obtain ⟨z1, z2⟩ := zip_fst ra'
  refine ⟨a, vs.zip x, rfl, SqL.of (by rw [z1]; exact s.ex a _ (e a _ ha)), ?_, ?_, fun out l pm pw hl => ?_⟩
  · rw [show (vs.zip x).map (fun p => Datum.toD p.2) = ((vs.zip x).map (·.2)).map Datum.toD from (List.map_map ..).symm, z1, z2]
    exact dp_toD s.ex ra'
  · rw [← List.length_map (f := (·.2)), z2]; exact c
  · refine q (out.map (·.2)) ⟨?_, ?_⟩ l _ G1 _ Ex.r (s.mine hl) (all2_pairs fun p hp => zip_rel ra' p (pm.mem_iff.mp hp))
    · have := pm.map (·.2)
      rw [z2] at this
      exact this
    · exact List.pairwise_map.mpr pw
end
end Dk

set_option Elab.async false
set_option linter.all false
set_option maxRecDepth 100000
set_option maxHeartbeats 1000000
namespace Dk
open PySem PySem.Spec PyProof.Rows L2
open Evl (Ex)
open Py (rp)
open PyD (pic)
/-! ### data or None -/
class NND (α : Type) [DecidableEq α] [PyD α] : Prop where
  l : ∀ a : α, PyData.eqv .none (pic a) = false
  r : ∀ a : α, PyData.eqv (pic a) .none = false
instance : NND Str := ⟨fun a => by show PyData.eqv .none (.str a) = false; simp only [PyData.eqv], fun a => by show PyData.eqv (.str a) .none = false; simp only [PyData.eqv]⟩
instance {α : Type} [DecidableEq α] [PyD α] : NND (List α) := ⟨fun a => by show PyData.eqv .none (.list _) = false; simp only [PyData.eqv], fun a => by show PyData.eqv (.list _) .none = false; simp only [PyData.eqv]⟩
instance {α β : Type} [DecidableEq α] [PyD α] [DecidableEq β] [PyD β] : NND (α × β) := ⟨fun a => by show PyData.eqv .none (.tuple _) = false; simp only [PyData.eqv], fun a => by show PyData.eqv (.tuple _) .none = false; simp only [PyData.eqv]⟩
instance {α β γ : Type} [DecidableEq α] [PyD α] [DecidableEq β] [PyD β] [DecidableEq γ] [PyD γ] : NND (Tp3 α β γ) := ⟨fun a => by show PyData.eqv .none (.tuple _) = false; simp only [PyData.eqv], fun a => by show PyData.eqv (.tuple _) .none = false; simp only [PyData.eqv]⟩
instance instPyDOpt {α : Type} [DecidableEq α] [PyD α] [NND α] : PyD (Option α) where
  pic := fun o => match o with | none => .none | some a => pic a
  ok := fun o => match o with | none => True | some a => PyD.ok a
  okr := fun o => match o with | none => True | some a => PyD.okr a
  size := fun o => match o with | none => 0 | some a => PyD.size a
  deep := PyD.deep α
  dp := fun {K G H v a} e h => match a, h with
    | none, h => by rw [show v = .non from h]; exact .non
    | some i, h => PyD.dp e h
  lay := fun {a} h => match a, h with
    | none, _ => by simp only [PyData.canLay0]
    | some i, h => PyD.lay h
  dep := fun a => match a with
    | none => by simp only [PyData.depth]; omega
    | some i => PyD.dep i
  eqd := fun a b => match a, b with
    | none, none => by simp only [PyData.eqv]; rfl
    | none, some b => by rw [NND.l]; rfl
    | some a, none => by rw [NND.r]; rfl
    | some a, some b => by
      rw [PyD.eqd]
      by_cases e : a = b <;> simp [e]
  sh := fun {a} h => match a, h with
    | none, _ => ⟨by simp only [PyData.leavesShort], by simp only [PyData.showable], by simp only [PyData.hasDict]⟩
    | some i, h => PyD.sh h
  bk := fun a => match a with
    | none => by simp only [PyData.bulk]; omega
    | some i => PyD.bk i
/-! ### owned, or None -/
def PO.opt {α : Type} (p : PO α) : PO (Option α) where
  py := @instPyOption α p.py
  rp := fun G v x o => match x with
    | none => v = .non ∧ o = []
    | some a => p.rp G v a o
  up := fun {G G' v x o} e h => match x, h with
    | none, h => h
    | some _, h => p.up e h
  lists := fun {G v x o} h q hq => match x, h with
    | none, h => by rw [h.2] at hq; cases hq
    | some _, h => p.lists h q hq
  frz := fun {G G' v x o} e f h => match x, h with
    | none, h => h.1
    | some _, h => p.frz e f h
section
variable {α β γ S : Type} {XP : XPost} {D : List Sl} {te ta tb : TE} {B : Option Addr} {O O0 : Ow} {G H : Hp} {σ : L2.St} {K : PySem.W.Frag} {i : Nat}
theorem EWF.none {p : PO α} : EWF XP (PO.opt p) D (tC .non) (W.pure none) := fun B O0 O G H σ Q fr s q => q .non [] _ _ Ex.r s ⟨rfl, rfl⟩
theorem EWF.some {p : PO α} {m : W α} (h : EWF XP p D te m) : EWF XP (PO.opt p) D te (m.bind fun a => W.pure (some a)) := fun B O0 O G H σ Q fr s q => h fr s q
instance firmp_opt {p : PO α} [f : FirmP p] : FirmP (PO.opt p) := ⟨fun {G l vs v x o} hl h => by
  cases x with
  | none => exact h
  | some a => exact f.keep hl h⟩
/-- te gives a part of what slot i owns -/
def OPt (D : List Sl) (i : Nat) (te : TE) (p : PO β) (ob : Option β) : Prop :=
  ∀ ⦃B : Option Addr⦄ ⦃O0 O : Ow⦄ ⦃G H : Hp⦄ ⦃σ : L2.St⦄ ⦃Q : VK⦄, Fr B G D σ O → Sx B (O ++ O0) G H → ∀ b, ob = some b →
    (∀ v o O', p.rp G v b o → Fr B G (D.set i .any) σ O' → Sx B (o ++ (O' ++ O0)) G H → Q v H) → te σ H Q
theorem OPt.name {p : PO α} {a : α} (hi : D[i]? = some (.ov p a)) : OPt D i (tVar i) p (some a) := fun B O0 O G H σ Q fr s b e k => by
  obtain ⟨O1, o, O2, u, e1, e2, r, z⟩ := fr.ovAt hi
  obtain rfl : a = b := Option.some.inj e
  subst e1
  have f := z G .any (some u) [] Ex.r rfl
  rw [set_same e2] at f
  exact ⟨u, e2, k u o _ r f (s.perm (ov_in (o := [])).symm)⟩
theorem OPt.own [Py α] {xs : List α} (hi : D[i]? = some (own xs)) : OPt D i (tVar i) (PO.list (PO.st (α := α))) (some xs) := fun B O0 O G H σ Q fr s b e k => by
  obtain ⟨O1, o, O2, v, e1, e2, ⟨p, ws, e3, e4, ra⟩, z⟩ := fr.focus hi
  obtain rfl : xs = b := Option.some.inj e
  subst e1
  have f := z G .any v [] Ex.r rfl
  rw [set_same e2] at f
  exact ⟨.ref p, by rw [e2, e3], k (.ref p) o _ ⟨p, ws, [], rfl, e4, PoL.of ra⟩ f (s.perm (ov_in (o := [])).symm)⟩
theorem OPt.get {p : PO β} {ob : Option (Option β)} (h : OPt D i te (PO.opt p) ob) : OPt D i te p (ob.bind id) := fun B O0 O G H σ Q fr s b e k => by
  cases ob with
  | none => cases e
  | some x =>
    cases x with
    | none => cases e
    | some y =>
      obtain rfl : y = b := Option.some.inj e
      exact h fr s (some y) rfl fun v o O' r f s2 => k v o O' r f s2
theorem ixP {p : Addr} {us : List V} {j : Nat} {u : V} {Q : VK} (s : Sx B O G H) (hp : G p = some (.tup us)) (hu : us[j]? = some u) (q : Q u H) : rIx K (.ref p) (.int (j : Int)) H Q :=
  .inr (.inl ⟨p, us, j, u, rfl, rfl, SqT.of (s.ex p _ hp), by unfold atI; rw [Evl.ixN_nat (List.getElem?_eq_some_iff.mp hu).1]; exact hu, q⟩)
theorem OPt.ix0 {p : PO β} {q : PO γ} {ob : Option (β × γ)} (h : OPt D i te (PO.pair p q) ob) : OPt D i (tOp (rIx K) te (tC (.int 0))) p (ob.map (·.1)) := fun B O0 O G H σ Q fr s b e k => by
  cases ob with
  | none => cases e
  | some x =>
    obtain rfl : x.1 = b := Option.some.inj e
    refine h fr s x rfl fun v o O' ⟨t, y, z, o1, o2, h1, h2, h3, h4, h5⟩ f s2 => ?_
    subst h1; subst h3
    exact ixP (j := 0) s2 h2 rfl (k y o1 O' h4 f (s2.sub (by
      rw [List.append_assoc]
      exact (List.Sublist.refl o1).append (List.sublist_append_right _ _))))
theorem OPt.ix1 {p : PO β} {q : PO γ} {ob : Option (β × γ)} (h : OPt D i te (PO.pair p q) ob) : OPt D i (tOp (rIx K) te (tC (.int 1))) q (ob.map (·.2)) := fun B O0 O G H σ Q fr s b e k => by
  cases ob with
  | none => cases e
  | some x =>
    obtain rfl : x.2 = b := Option.some.inj e
    refine h fr s x rfl fun v o O' ⟨t, y, z, o1, o2, h1, h2, h3, h4, h5⟩ f s2 => ?_
    subst h1; subst h3
    exact ixP (j := 1) s2 h2 rfl (k z o2 O' h5 f (s2.sub (by
      rw [List.append_assoc]
      exact List.sublist_append_right _ _)))
/-- what is left after a list of slot i was changed -/
theorem after_mut {p : PO β} {l : Addr} {ws ws' : List V} {r O' : Ow} (s : Sx B (((l, .lst ws) :: r) ++ (O' ++ O0)) G H) : Sx B (O' ++ O0) G (upd H l (.lst ws')) :=
  (Sx.put (o' := .lst ws') s).sub (((List.sublist_append_right r (O' ++ O0)).cons _))
theorem StW.mutReverse {p : PO β} {ob : Option (List β)} (h : OPt D i te (PO.list p) ob) : StW XP D (tDrop (tBM K "list" rReverse te tNil)) ((W.get ob).bind fun _ => W.pure ()) fun _ => D.set i .any := fun B O0 O G H σ Ds fr s ⟨b, e, q⟩ => by
  refine h fr s b e fun v o O' ⟨l, ws, r, h1, h2, h3⟩ f s2 => ?_
  subst h1; subst h2
  have hl := (Sx.head s2).1
  exact ⟨.inl ⟨rfl, ws, SqL.of hl⟩, l, ws, rfl, rfl, hl, q σ _ G _ Ex.r f (after_mut (p := p) s2)⟩
theorem StW.mutClear {p : PO β} {ob : Option (List β)} (h : OPt D i te (PO.list p) ob) : StW XP D (tDrop (tBM K "list" rClear te tNil)) ((W.get ob).bind fun _ => W.pure ()) fun _ => D.set i .any := fun B O0 O G H σ Ds fr s ⟨b, e, q⟩ => by
  refine h fr s b e fun v o O' ⟨l, ws, r, h1, h2, h3⟩ f s2 => ?_
  subst h1; subst h2
  have hl := (Sx.head s2).1
  exact ⟨.inl ⟨rfl, ws, SqL.of hl⟩, l, ws, rfl, rfl, hl, q σ _ G _ Ex.r f (after_mut (p := p) s2)⟩
theorem StW.mutAppend [Py α] {p : PO β} {ob : Option (List β)} {m : W α} (h : OPt D i te (PO.list p) ob) (ha : ∀ XP, EW XP (D.set i .any) ta m) : StW XP D (tDrop (tBM K "list" rAppend te (tCons ta tNil))) ((W.get ob).bind fun xs => m.bind fun _ => W.chk (xs.length ≤ 1000000) (W.pure ())) fun _ => D.set i .any := fun B O0 O G H σ Ds fr s ⟨b, e, q⟩ => by
  refine h fr s b e fun v o O' ⟨l, ws, r, h1, h2, h3⟩ f s2 => ?_
  subst h1; subst h2
  have hl := (Sx.head s2).1
  have s3 : Sx B (O' ++ (((l, .lst ws) :: r) ++ O0)) G H := s2.perm (by rw [← List.append_assoc]; exact app_swap)
  refine ⟨.inl ⟨rfl, ws, SqL.of hl⟩, ha (fun _ _ _ e => ∀ G1, Ex G G1 → XP B O0 G1 e) f s3 (m.mono (fun a ⟨c, k⟩ v G2 H2 e2 s4 r4 => ?_) (fun x hx G1 e1 G2 e2 => hx G2 e2) q)⟩
  have s5 : Sx B (((l, .lst ws) :: r) ++ (O' ++ O0)) G2 H2 := s4.perm (by rw [← List.append_assoc O']; exact app_swap)
  have hl2 := (Sx.head s5).1
  exact ⟨l, ws, v, rfl, rfl, hl2, line_lt (by rw [h3.len]; exact c), k σ _ G2 _ e2 (f.up e2) (after_mut (p := p) s5)⟩
end
end Dk

set_option Elab.async false
set_option linter.all false
set_option maxRecDepth 100000
set_option maxHeartbeats 1000000
namespace Dk
open PySem PySem.Spec PyProof.Rows L2
open Evl (Ex)
open Py (rp)
open PyD (pic)
/-! ### errors -/
def Arg.v : Arg → V
  | .no => .non
  | .int i => .int i
  | .str s => .str s
def Arg.int? : Arg → Option Int
  | .int i => some i
  | _ => none
def Arg.str? : Arg → Option Str
  | .str s => some s
  | _ => none
namespace W
variable {α β : Type}
def catch_ (m : W α) (h : Exn → W α) : W α := ⟨fun Q E => m.run Q fun e => (h e).run Q E, fun p g => m.mono p fun e => (h e).mono p g⟩
theorem ok_nox {m : W α} {P : α → Prop} : Ok (nox m) P ↔ Ok m P := Iff.rfl
theorem ok_catch {m : W α} {h : Exn → W α} {P : α → Prop} : Ok (catch_ m h) P ↔ m.run P fun e => Ok (h e) P := Iff.rfl
@[simp] theorem nox_pure (a : α) : nox (pure a) = pure a := rfl
end W
abbrev eDeskError : Nat := 0
abbrev eWrong : Nat := 1
abbrev eBadDesk : Nat := 2
abbrev eNoDesk : Nat := 3
abbrev eNoWorker : Nat := 4
abbrev eNotLive : Nat := 5
abbrev eNotLean : Nat := 6
abbrev eNoOwn : Nat := 7
abbrev eNotRow : Nat := 8
abbrev eNoCover : Nat := 9
abbrev eNotPossible : Nat := 10
abbrev eNoNumber : Nat := 11
abbrev eUnlike : Nat := 12
abbrev eTooMany : Nat := 13
abbrev eKnown : Nat := 14
abbrev eClosed : Nat := 15
abbrev eStopped : Nat := 16
abbrev eNothing : Nat := 17
abbrev eNoText : Nat := 18
abbrev eNoCommand : Nat := 19
/-- what an error of a class leaves: the class, its field -/
abbrev ET := Nat → Option (Addr × Str)
/-- a way out by an error, from n slots -/
def XPw (ec : ET) (n : Nat) (W : WX) : XPost := fun B O G e => ∀ c f, ec e.cls = some (c, f) → ∀ (σ : L2.St) G' H' d, σ.length = n → Ex G G' → Sx B O G' H' → H' d = none → W (.ref c) (some d) σ (upd H' d (.xd [(f, e.arg.v)]))
def XEr (ec : ET) : XK → XPost := fun E => XPw ec 0 fun c d _ H => E c d H
section
variable {α β γ A ι R S : Type} [Py α] [Py β] [Py γ] {XP : XPost} {D D1 : List Sl} {te ta tb : TE} {t tr tk : TA} {tt : TT} {ts : TS} {B : Option Addr} {O O0 : Ow} {G G1 G2 H : Hp} {σ : L2.St} {K : PySem.W.Frag} {ec : ET} {n j : Nat} {Wx : WX}
/-- no error comes: wherever errors may come -/
theorem EW.up0 {m : W α} (h : EW XP0 D te m) : EW XP D te m.nox := fun B O0 O G H σ Q fr s q => h fr s (m.mono (fun _ k => k) (fun _ x => x.elim) q)
theorem EWN.up0 {m : W (List α)} (h : EWN XP0 D te m) : EWN XP D te m.nox := fun B O0 O G H σ Q fr s q => h fr s (m.mono (fun _ k => k) (fun _ x => x.elim) q)
theorem EWT.up0 {m : W Bool} (h : EWT XP0 D tt m) : EWT XP D tt m.nox := fun B O0 O G H σ Q fr s q => h fr s (m.mono (fun _ k => k) (fun _ x => x.elim) q)
theorem EWF.up0 {α : Type} {p : PO α} {m : W α} (h : EWF XP0 p D te m) : EWF XP p D te m.nox := fun B O0 O G H σ Q fr s q => h fr s (m.mono (fun _ k => k) (fun _ x => x.elim) q)
theorem StW.up0 {m : W S} {D' : S → List Sl} (h : StW XP0 D ts m D') : StW XP D ts m.nox D' := fun B O0 O G H σ Ds fr s q => h fr s (m.mono (fun _ k => k) (fun _ x => x.elim) q)
theorem Rt.up0 {M : RM R} {m : W R} (h : Rt XP0 M D ts m) : Rt XP M D ts m.nox := fun B O0 O G H σ Ds fr s q => h fr s (m.mono (fun _ k => k) (fun _ x => x.elim) q)
theorem StR.up0 {M : RM R} {m : W R} (h : StR XP0 M D ts m) : StR XP M D ts m.nox := fun B O0 O G H σ Ds fr s top q => h fr s top (m.mono (fun _ k => k) (fun _ x => x.elim) q)
/-- the callee's errors, on the caller's way out -/
theorem px_call {e : Exn} (hl : σ.length = n) (x : Ex G G1) (h : PX (XPw ec n Wx) B O0 G e) : PX (XEr ec (WE Wx σ)) B (O ++ O0) G1 e := fun G2 x2 c f hc _ G' H' d _ x3 s hd => h G2 (Ex.t x x2) c f hc σ G' H' d hl x3 (s.sub (List.sublist_append_right _ _)) hd
theorem fr_len (fr : Fr B G D σ O) (hn : D.length = n) : σ.length = n := by rw [fr.len]; exact hn
theorem EW.callX {dvs : List V} {ar : AR A} {ma : W A} {m : A → W γ} (hn : D.length = n) (h : EWA (XPw ec n Wx) D t ar ma) : EW (XPw ec n Wx) D (tCallGS (SpV (XEr ec) ar m) [] (WE Wx) t) (ma.bind m) := fun B O0 O G H σ Q fr s q =>
  h fr s (ma.mono (fun a k vs G2 H2 e s2 r => ⟨B, O ++ O0, G2, a, s2, by rw [List.append_nil]; exact r, (m a).mono (PV.up e) (fun x hx => px_call (fr_len fr hn) e hx) k⟩) (fun _ x => x) q)
theorem EWN.callX {ar : AR A} {ma : W A} {m : A → W (List γ)} (hn : D.length = n) (h : EWA (XPw ec n Wx) D t ar ma) : EWN (XPw ec n Wx) D (tCallGS (SpO (XEr ec) ar m) [] (WE Wx) t) (ma.bind m) := fun B O0 O G H σ Q fr s q =>
  h fr s (ma.mono (fun a k vs G2 H2 e s2 r => ⟨B, O ++ O0, G2, a, s2, by rw [List.append_nil]; exact r, (m a).mono (fun xs k2 p ws G3 H3 e3 => k2 p ws G3 H3 (Ex.t e e3)) (fun x hx => px_call (fr_len fr hn) e hx) k⟩) (fun _ x => x) q)
theorem EWF.callX {γ : Type} {p : PO γ} {ar : AR A} {ma : W A} {m : A → W γ} (hn : D.length = n) (h : EWA (XPw ec n Wx) D t ar ma) : EWF (XPw ec n Wx) p D (tCallGS (SpF' p (XEr ec) ar m) [] (WE Wx) t) (ma.bind m) := fun B O0 O G H σ Q fr s q =>
  h fr s (ma.mono (fun a k vs G2 H2 e s2 r => ⟨B, O ++ O0, G2, a, s2, by rw [List.append_nil]; exact r, (m a).mono (fun x k2 v o G3 H3 e3 => k2 v o G3 H3 (Ex.t e e3)) (fun x hx => px_call (fr_len fr hn) e hx) k⟩) (fun _ x => x) q)
theorem EW.callUX {ar : AR A} {ma : W A} {m : A → W Unit} (hn : D.length = n) (h : EWA (XPw ec n Wx) D t ar ma) : EW (XPw ec n Wx) D (tCallGS (SpU (XEr ec) ar m) [] (WE Wx) t) (ma.bind m) := fun B O0 O G H σ Q fr s q =>
  h fr s (ma.mono (fun a k vs G2 H2 e s2 r => ⟨B, O ++ O0, G2, a, s2, by rw [List.append_nil]; exact r, (m a).mono (fun _ k2 G3 H3 e3 s3 => k2 .non G3 H3 (Ex.t e e3) s3 rfl) (fun x hx => px_call (fr_len fr hn) e hx) k⟩) (fun _ x => x) q)
theorem EW.callDX {dvs : List V} {ar : AR A} {ma : W A} {m : A → W γ} (hn : D.length = n) (h : EWAD (XPw ec n Wx) D t ar dvs ma) : EW (XPw ec n Wx) D (tCallGS (SpV (XEr ec) ar m) dvs (WE Wx) t) (ma.bind m) := fun B O0 O G H σ Q fr s q =>
  h fr s (ma.mono (fun a k vs G2 H2 e s2 r => ⟨B, O ++ O0, G2, a, s2, r, (m a).mono (PV.up e) (fun x hx => px_call (fr_len fr hn) e hx) k⟩) (fun _ x => x) q)
theorem EWN.callDX {dvs : List V} {ar : AR A} {ma : W A} {m : A → W (List γ)} (hn : D.length = n) (h : EWAD (XPw ec n Wx) D t ar dvs ma) : EWN (XPw ec n Wx) D (tCallGS (SpO (XEr ec) ar m) dvs (WE Wx) t) (ma.bind m) := fun B O0 O G H σ Q fr s q =>
  h fr s (ma.mono (fun a k vs G2 H2 e s2 r => ⟨B, O ++ O0, G2, a, s2, r, (m a).mono (fun xs k2 p ws G3 H3 e3 => k2 p ws G3 H3 (Ex.t e e3)) (fun x hx => px_call (fr_len fr hn) e hx) k⟩) (fun _ x => x) q)
theorem EWF.callDX {γ : Type} {p : PO γ} {dvs : List V} {ar : AR A} {ma : W A} {m : A → W γ} (hn : D.length = n) (h : EWAD (XPw ec n Wx) D t ar dvs ma) : EWF (XPw ec n Wx) p D (tCallGS (SpF' p (XEr ec) ar m) dvs (WE Wx) t) (ma.bind m) := fun B O0 O G H σ Q fr s q =>
  h fr s (ma.mono (fun a k vs G2 H2 e s2 r => ⟨B, O ++ O0, G2, a, s2, r, (m a).mono (fun x k2 v o G3 H3 e3 => k2 v o G3 H3 (Ex.t e e3)) (fun x hx => px_call (fr_len fr hn) e hx) k⟩) (fun _ x => x) q)
theorem EW.callKX {ar : AR A} {ma : W A} {m : A → W γ} (hn : D.length = n) (h : EWAK (XPw ec n Wx) D t tk j ar ma) : EW (XPw ec n Wx) D (tCallGNS j 1 (SpV (XEr ec) ar m) (fun vs zs => vs ++ zs) (WE Wx) t tk) (ma.bind m) := fun B O0 O G H σ Q fr s q =>
  h fr s (ma.mono (fun a k vs zs G2 H2 e s2 l1 l2 r => ⟨l1, l2, B, O ++ O0, G2, a, s2, r, (m a).mono (PV.up e) (fun x hx => px_call (fr_len fr hn) e hx) k⟩) (fun _ x => x) q)
theorem EWN.callKX {ar : AR A} {ma : W A} {m : A → W (List γ)} (hn : D.length = n) (h : EWAK (XPw ec n Wx) D t tk j ar ma) : EWN (XPw ec n Wx) D (tCallGNS j 1 (SpO (XEr ec) ar m) (fun vs zs => vs ++ zs) (WE Wx) t tk) (ma.bind m) := fun B O0 O G H σ Q fr s q =>
  h fr s (ma.mono (fun a k vs zs G2 H2 e s2 l1 l2 r => ⟨l1, l2, B, O ++ O0, G2, a, s2, r, (m a).mono (fun xs k2 p ws G3 H3 e3 => k2 p ws G3 H3 (Ex.t e e3)) (fun x hx => px_call (fr_len fr hn) e hx) k⟩) (fun _ x => x) q)
theorem EWF.callKX {γ : Type} {p : PO γ} {ar : AR A} {ma : W A} {m : A → W γ} (hn : D.length = n) (h : EWAK (XPw ec n Wx) D t tk j ar ma) : EWF (XPw ec n Wx) p D (tCallGNS j 1 (SpF' p (XEr ec) ar m) (fun vs zs => vs ++ zs) (WE Wx) t tk) (ma.bind m) := fun B O0 O G H σ Q fr s q =>
  h fr s (ma.mono (fun a k vs zs G2 H2 e s2 l1 l2 r => ⟨l1, l2, B, O ++ O0, G2, a, s2, r, (m a).mono (fun x k2 v o G3 H3 e3 => k2 v o G3 H3 (Ex.t e e3)) (fun x hx => px_call (fr_len fr hn) e hx) k⟩) (fun _ x => x) q)
/-- a def that may raise, called where no error may come -/
theorem px0_call {e : Exn} (h : PX XP0 B O0 G e) : PX (XEr ec E0) B (O ++ O0) G1 e := (PX0 e h).elim
theorem EW.callE {ar : AR A} {ma : W A} {m : A → W γ} (h : EWA XP0 D t ar ma) : EW XP0 D (tCall (SpV (XEr ec) ar m) [] E0 t) (ma.bind m) := fun B O0 O G H σ Q fr s q =>
  h fr s (ma.mono (fun a k vs G2 H2 e s2 r => ⟨B, O ++ O0, G2, a, s2, by rw [List.append_nil]; exact r, (m a).mono (PV.up e) (fun x hx => px0_call hx) k⟩) (fun _ x => x) q)
theorem EWN.callE {ar : AR A} {ma : W A} {m : A → W (List γ)} (h : EWA XP0 D t ar ma) : EWN XP0 D (tCall (SpO (XEr ec) ar m) [] E0 t) (ma.bind m) := fun B O0 O G H σ Q fr s q =>
  h fr s (ma.mono (fun a k vs G2 H2 e s2 r => ⟨B, O ++ O0, G2, a, s2, by rw [List.append_nil]; exact r, (m a).mono (fun xs k2 p ws G3 H3 e3 => k2 p ws G3 H3 (Ex.t e e3)) (fun x hx => px0_call hx) k⟩) (fun _ x => x) q)
theorem EWF.callE {γ : Type} {p : PO γ} {ar : AR A} {ma : W A} {m : A → W γ} (h : EWA XP0 D t ar ma) : EWF XP0 p D (tCall (SpF' p (XEr ec) ar m) [] E0 t) (ma.bind m) := fun B O0 O G H σ Q fr s q =>
  h fr s (ma.mono (fun a k vs G2 H2 e s2 r => ⟨B, O ++ O0, G2, a, s2, by rw [List.append_nil]; exact r, (m a).mono (fun x k2 v o G3 H3 e3 => k2 v o G3 H3 (Ex.t e e3)) (fun x hx => px0_call hx) k⟩) (fun _ x => x) q)
theorem EW.callDE {dvs : List V} {ar : AR A} {ma : W A} {m : A → W γ} (h : EWAD XP0 D t ar dvs ma) : EW XP0 D (tCall (SpV (XEr ec) ar m) dvs E0 t) (ma.bind m) := fun B O0 O G H σ Q fr s q =>
  h fr s (ma.mono (fun a k vs G2 H2 e s2 r => ⟨B, O ++ O0, G2, a, s2, r, (m a).mono (PV.up e) (fun x hx => px0_call hx) k⟩) (fun _ x => x) q)
theorem EWN.callDE {dvs : List V} {ar : AR A} {ma : W A} {m : A → W (List γ)} (h : EWAD XP0 D t ar dvs ma) : EWN XP0 D (tCall (SpO (XEr ec) ar m) dvs E0 t) (ma.bind m) := fun B O0 O G H σ Q fr s q =>
  h fr s (ma.mono (fun a k vs G2 H2 e s2 r => ⟨B, O ++ O0, G2, a, s2, r, (m a).mono (fun xs k2 p ws G3 H3 e3 => k2 p ws G3 H3 (Ex.t e e3)) (fun x hx => px0_call hx) k⟩) (fun _ x => x) q)
theorem EWF.callDE {γ : Type} {p : PO γ} {dvs : List V} {ar : AR A} {ma : W A} {m : A → W γ} (h : EWAD XP0 D t ar dvs ma) : EWF XP0 p D (tCall (SpF' p (XEr ec) ar m) dvs E0 t) (ma.bind m) := fun B O0 O G H σ Q fr s q =>
  h fr s (ma.mono (fun a k vs G2 H2 e s2 r => ⟨B, O ++ O0, G2, a, s2, r, (m a).mono (fun x k2 v o G3 H3 e3 => k2 v o G3 H3 (Ex.t e e3)) (fun x hx => px0_call hx) k⟩) (fun _ x => x) q)
/-! ### raise -/
theorem Rt.raise {M : RM R} {C : Addr} {f : Str} {cls : Nat} {arg : α → Arg} {m : W α} (ht : ∀ Ds σ H, ts Ds σ H = te σ H fun v H1 => ∃ u, [v] = [u] ∧ ∀ d, H1 d = none → Wx (.ref C) (some d) σ (upd H1 d (.xd [(f, u)]))) (hec : ec cls = some (C, f)) (hn : D.length = n)
    (h : EW (XPw ec n Wx) D te m) (ha : ∀ {G : Hp} {v : V} {a : α}, rp G v a → v = (arg a).v) : Rt (XPw ec n Wx) M D ts (m.bind fun a => W.throw ⟨cls, arg a⟩) := fun B O0 O G H σ Ds fr s q => by
  rw [ht]
  refine h fr s (m.mono (fun a k v G2 H2 e s2 r => ⟨v, rfl, fun d hd => ?_⟩) (fun _ x => x) q)
  have := k G2 e C f hec σ G2 H2 d (fr_len fr hn) Ex.r (s2.sub (List.sublist_append_right _ _)) hd
  rw [ha r]
  exact this
theorem arg_int {G : Hp} {v : V} {a : Int} (r : rp G v a) : v = (Arg.int a).v := r
theorem arg_str {G : Hp} {v : V} {a : Str} (r : rp G v a) : v = (Arg.str a).v := r
/-! ### what the suite holds -/
def pyEx (a d : Addr) (f : Str) (v : V) : Py Unit := ⟨fun G u _ => u = .ref a ∧ G d = some (.xd [(f, v)]), fun e h => ⟨h.1, e d _ h.2⟩⟩
theorem ex_at {a d : Addr} {f : Str} {v : V} {i : Nat} (fr : Fr B G D σ O) (hs : D[i]? = some (.st (pyEx a d f v) ())) : σ[i]? = some (some (.ref a)) ∧ G d = some (.xd [(f, v)]) := by
  obtain ⟨_, _, _, w, _, e2, ⟨_, u, e3, e4, e5⟩, _⟩ := fr.focus hs
  exact ⟨by rw [e2, e3, e4], e5⟩
/-- isinstance(e, C) -/
theorem EW.isX {a d c C : Addr} {f : Str} {v : V} {b : Bool} {i : Nat} (hs : D[i]? = some (.st (pyEx a d f v) ())) (ex : ExcC K c) (hk : PySem.W.kitOne K (.ref c) (.ref C) = some b) : EW XP D (tCB (rIsG K a (.ref c) (some d)) (tCons (tVar i) (tCons (tC (V.ref C)) tNil))) (W.pure b) := fun B O0 O G H σ Q fr s q => by
  obtain ⟨h1, h2⟩ := ex_at fr hs
  exact ⟨_, h1, c, d, rfl, rfl, ex, ⟨_, s.ex d _ h2⟩, .ref C, .ref C, b, rfl, fun u h => h, hk, q (.bl b) G H Ex.r s rfl⟩
/-- isinstance(e, a built-in class) -/
theorem EW.isY {a d c : Addr} {f T : Str} {n : String} {v : V} {b : Bool} {i : Nat} (hs : D[i]? = some (.st (pyEx a d f v) ())) (ex : ExcC K c) (hk : PySem.W.kitOne K (.ref c) (.type n) = some b) : EW XP D (tCB (rIsG K a (.ref c) (some d)) (tCons (tVar i) (tCons (tC (V.ty n)) tNil))) (W.pure b) := fun B O0 O G H σ Q fr s q => by
  obtain ⟨h1, h2⟩ := ex_at fr hs
  exact ⟨_, h1, c, d, rfl, rfl, ex, ⟨_, s.ex d _ h2⟩, .ty n, .type n, b, rfl, fun u h => h, hk, q (.bl b) G H Ex.r s rfl⟩
def tRefs : List (Addr × Bool) → TA
  | [] => tNil
  | p :: r => tCons (tC (.ref p.1)) (tRefs r)
theorem tRefs_run {σ : L2.St} {H : Hp} : ∀ {cs : List (Addr × Bool)} {Q : List V → Hp → Prop}, Q (cs.map fun p => V.ref p.1) H → tRefs cs σ H Q
  | [], _, q => q
  | p :: cs, Q, q => tRefs_run (cs := cs) (Q := fun vs H1 => Q (V.ref p.1 :: vs) H1) q
/-- isinstance(e, (C1, ..)) -/
theorem EW.isT {a d c : Addr} {f : Str} {v : V} {b : Bool} {i : Nat} (cs : List (Addr × Bool)) (hs : D[i]? = some (.st (pyEx a d f v) ())) (ex : ExcC K c) (hk : ∀ p ∈ cs, PySem.W.kitOne K (.ref c) (.ref p.1) = some p.2) (hl : cs.length ≤ 1000000) (hb : cs.any (·.2) = b) :
    EW XP D (tCB (rIsGT K a (.ref c) (some d)) (tCons (tVar i) (tCons (tTup (tRefs cs)) tNil))) (W.pure b) := fun B O0 O G H σ Q fr s q => by
  obtain ⟨h1, h2⟩ := ex_at fr hs
  subst hb
  refine ⟨_, h1, tRefs_run ⟨line_le (by rw [List.length_map]; exact hl), fun t ht => ?_⟩⟩
  have s2 := s.still (o := .tup (cs.map fun p => V.ref p.1)) ht
  exact ⟨c, d, _, rfl, rfl, ex, s2.ex d _ (s.grow ht d _ h2), t, cs, rfl, SqT.of upd_same, hk, q (.bl _) _ _ (s.grow ht) s2 rfl⟩
/-- e.f -/
theorem EW.byX {a d c C : Addr} {f f0 : Str} {v : V} {i : Nat} {o : Option α} {tb : TE} {p : Prop} (hs : D[i]? = some (.st (pyEx a d f v) ())) (htb : ∀ σ H Q, tb σ H Q = tVar i σ H fun x H1 => x = .ref a ∧ Value.ref c = Value.ref C ∧ ∃ (dd : Addr) (v : V), some d = some dd ∧ H1 dd = some (.xd [(f0, v)]) ∧ Q v H1)
    (hp : p → c = C ∧ f = f0) (ho : ∀ x, o = some x → ∀ G, rp G v x) : EW XP D tb (W.chk p (W.get o)) := fun B O0 O G H σ Q fr s ⟨hc, x, ex, q⟩ => by
  obtain ⟨h1, h2⟩ := ex_at fr hs
  obtain ⟨rfl, rfl⟩ := hp hc
  rw [htb]
  exact ⟨_, h1, rfl, rfl, d, v, rfl, s.ex d _ h2, q v G H Ex.r s (ho x ex G)⟩
theorem ho_str {a : Arg} {x : Str} (h : a.str? = some x) (G : Hp) : rp G a.v x := by
  cases a with
  | str s => rw [show s = x from Option.some.inj h]; rfl
  | _ => cases h
theorem ho_int {a : Arg} {x : Int} (h : a.int? = some x) (G : Hp) : rp G a.v x := by
  cases a with
  | int s => rw [show s = x from Option.some.inj h]; rfl
  | _ => cases h
theorem EWF.callQ {γ : Type} {p : PO γ} {ar : AR A} {ma : W A} {m : A → W γ} {E : XK} (h : EWA XP D t ar ma) : EWF XP p D (tCall (SpF' p XE0 ar m) [] E t) (ma.bind fun a => (m a).nox) := fun B O0 O G H σ Q fr s q =>
  h fr s (ma.mono (fun a k vs G2 H2 e s2 r => ⟨B, O ++ O0, G2, a, s2, by rw [List.append_nil]; exact r, (m a).mono (fun x k2 v o G3 H3 e3 => k2 v o G3 H3 (Ex.t e e3)) (fun x hx => hx.elim) k⟩) (fun _ x => x) q)
theorem px_more {e : Exn} {o : Ow} (x : Ex G G1) (h : PX (XPw ec n Wx) B O0 G e) : PX (XPw ec n Wx) B (o ++ O0) G1 e := fun G2 x2 c f hc σ G' H' d hl x3 s hd => h G2 (Ex.t x x2) c f hc σ G' H' d hl x3 (s.sub (List.sublist_append_right _ _)) hd
theorem EWF.pairX {α β : Type} {p : PO α} {q : PO β} {m : W α} {n' : W β} (h : EWF (XPw ec n Wx) p D ta m) (h' : EWF (XPw ec n Wx) q D tb n') : EWF (XPw ec n Wx) (PO.pair p q) D (tTup (tCons ta (tCons tb tNil))) (m.bind fun a => n'.bind fun b => W.pure (a, b)) := fun B O0 O G H σ Q fr s z =>
  h fr s (m.mono (fun a k v o G2 H2 e s2 r => h' (fr.up e) (O0 := o ++ O0) (s2.perm (by rw [← List.append_assoc]; exact app_swap)) (n'.mono (fun b k2 w o2 G3 H3 e3 s3 r3 => ⟨line_le (by show 2 ≤ 1000000; decide), fun t ht => by
    have s4 : Sx B ((o ++ o2) ++ (O ++ O0)) G3 H3 := s3.perm ((List.Perm.append_left o2 (by rw [← List.append_assoc]; exact app_swap)).trans (l₂ := o2 ++ (o ++ (O ++ O0))) (by rw [List.append_assoc o o2, ← List.append_assoc]; exact app_swap))
    exact k2 (.ref t) (o ++ o2) _ _ (Ex.t e (Ex.t e3 (s4.grow ht))) (s4.still ht) ⟨t, v, w, o, o2, rfl, upd_same, rfl, p.up (Ex.t e3 (s4.grow ht)) r, q.up (s4.grow ht) r3⟩⟩) (fun x hx => px_more e hx) k)) (fun _ x => x) z)
/-! ### try: .. except C as e: .. -/
theorem fr_any : ∀ (σ : L2.St), Fr B G (List.replicate σ.length .any) σ []
  | [] => .nil
  | v :: σ => .cons (o := []) rfl (fr_any σ)
theorem StR.tryR {M : RM R} {i : Nat} {cD : Value} {tb : WX → TS} {su : Addr → Value → Option Addr → TS} {m : W R} {h : Exn → W R} (hn : D.length = n) (hi : i < n)
    (hte : ∀ k c f, ec k = some (c, f) → PySem.W.exmOne K (.ref c) cD = some true)
    (hb : ∀ W : WX, StR (XPw ec n W) M D (tb W) m)
    (hs : ∀ (e : Exn) (c : Addr) (f : Str), ec e.cls = some (c, f) → ∀ a d, Rt XP M ((List.replicate n .any).set i (.st (pyEx a d f e.arg.v) ())) (su a (.ref c) (some d)) (h e)) :
    StR XP M D (fun Ds σ H => tb (wAs K cD i su (fun _ _ _ _ => False) Ds) Ds σ H) (W.catch_ m h) := fun B O0 O G H σ Ds fr s top q => by
  refine hb _ fr s top (m.mono (fun _ k => k) (fun e k G1 e1 c f hc σ' G' H' d hl e2 s2 hd => ?_) q)
  refine ⟨true, hte _ c f hc, fun _ a ha => ?_, fun z => nomatch z⟩
  have s3 := s2.still (o := .xd [(f, e.arg.v)]) hd
  have x3 : Ex G' (upd G' d (.xd [(f, e.arg.v)])) := s2.grow hd
  have fr0 : Fr B (upd G' d (.xd [(f, e.arg.v)])) (List.replicate n .any) σ' [] := by rw [← hl]; exact fr_any σ'
  have hi' : (List.replicate n Sl.any)[i]? = some .any := by rw [List.getElem?_replicate, if_pos hi]
  obtain ⟨O1, o, O2, w, e4, e5, e6, z⟩ := fr0.focus hi'
  have e7 : O1 = [] ∧ o = [] ∧ O2 = [] := by
    have := congrArg List.length e4
    simp only [List.length_append, List.length_nil] at this
    exact ⟨List.length_eq_zero_iff.mp (by omega), List.length_eq_zero_iff.mp (by omega), List.length_eq_zero_iff.mp (by omega)⟩
  obtain ⟨rfl, rfl, rfl⟩ := e7
  have fr1 := z _ (.st (pyEx a d f e.arg.v) ()) (some (.ref a)) [] Ex.r ⟨rfl, .ref a, rfl, rfl, upd_same⟩
  exact hs e c f hc a d (O := []) fr1 s3 ((h e).mono (fun r k2 G2 e8 => k2 G2 (Ex.t e1 (Ex.t e2 (Ex.t x3 e8)))) (fun y k2 G2 e8 => k2 G2 (Ex.t e1 (Ex.t e2 (Ex.t x3 e8)))) k)
/-- .. and more follows the suite -/
def W.orRet (m : W (Fl Unit R Unit)) (r : W R) : W R := m.bind fun o => match o with
  | .nx _ => r
  | .rt x => W.pure x
  | .bk _ => W.stuck
  | .ct _ => W.stuck
theorem StR.tryN {M : RM R} {i : Nat} {cD : Value} {tb : WX → TS} {tz : TS} {su : Addr → Value → Option Addr → TS} {m r : W R} {h : Exn → W (Fl Unit R Unit)} (hn : D.length = n) (hi : i < n)
    (hte : ∀ k c f, ec k = some (c, f) → PySem.W.exmOne K (.ref c) cD = some true)
    (hb : ∀ W : WX, StR (XPw ec n W) M D (tb W) m) (htb : ∀ W Ds σ H, tb W { Ds with nx := tz Ds } σ H = tb W Ds σ H)
    (hs : ∀ (e : Exn) (c : Addr) (f : Str), ec e.cls = some (c, f) → ∀ a d, StF XP M ((List.replicate n .any).set i (.st (pyEx a d f e.arg.v) ())) (su a (.ref c) (some d)) (h e) (fun _ => List.replicate n .any) (fun _ => List.replicate n .any))
    (hz : Rt XP M (List.replicate n .any) tz r) :
    StR XP M D (tSeq (fun Ds σ H => tb (wAs K cD i su (fun _ _ _ _ => False) Ds) Ds σ H) tz) (W.catch_ m fun e => W.orRet (h e) r) := fun B O0 O G H σ Ds fr s top q => by
  show tb (wAs K cD i su (fun _ _ _ _ => False) { Ds with nx := tz Ds }) { Ds with nx := tz Ds } σ H
  rw [htb]
  refine hb _ fr s top (m.mono (fun _ k => k) (fun e k G1 e1 c f hc σ' G' H' d hl e2 s2 hd => ?_) q)
  refine ⟨true, hte _ c f hc, fun _ a ha => ?_, fun z => nomatch z⟩
  have s3 := s2.still (o := .xd [(f, e.arg.v)]) hd
  have x3 : Ex G' (upd G' d (.xd [(f, e.arg.v)])) := s2.grow hd
  have fr0 : Fr B (upd G' d (.xd [(f, e.arg.v)])) (List.replicate n .any) σ' [] := by rw [← hl]; exact fr_any σ'
  have hi' : (List.replicate n Sl.any)[i]? = some .any := by rw [List.getElem?_replicate, if_pos hi]
  obtain ⟨O1, o, O2, w, e4, e5, e6, z⟩ := fr0.focus hi'
  have e7 : O1 = [] ∧ o = [] ∧ O2 = [] := by
    have := congrArg List.length e4
    simp only [List.length_append, List.length_nil] at this
    exact ⟨List.length_eq_zero_iff.mp (by omega), List.length_eq_zero_iff.mp (by omega), List.length_eq_zero_iff.mp (by omega)⟩
  obtain ⟨rfl, rfl, rfl⟩ := e7
  have fr1 := z _ (.st (pyEx a d f e.arg.v) ()) (some (.ref a)) [] Ex.r ⟨rfl, .ref a, rfl, rfl, upd_same⟩
  refine hs e c f hc a d (O := []) fr1 s3 ((h e).mono (fun o k2 => ?_) (fun y k2 G2 e8 => k2 G2 (Ex.t e1 (Ex.t e2 (Ex.t x3 e8)))) k)
  cases o with
  | nx u =>
    intro σ2 O2 G2 H2 e8 fr2 s8
    have l2 : σ2.length = n := by rw [fr2.len, List.length_replicate]
    have fr3 : Fr B G2 (List.replicate n .any) (σ2.set i none) [] := by
      have := fr_any (B := B) (G := G2) (σ2.set i none)
      rw [List.length_set, l2] at this
      exact this
    exact hz fr3 (s8.sub (List.sublist_append_right _ _)) (r.mono (fun x k3 G3 e9 => k3 G3 (Ex.t e1 (Ex.t e2 (Ex.t x3 (Ex.t e8 e9))))) (fun y k3 G3 e9 => k3 G3 (Ex.t e1 (Ex.t e2 (Ex.t x3 (Ex.t e8 e9))))) k2)
  | rt x => exact fun G2 e8 => k2 G2 (Ex.t e1 (Ex.t e2 (Ex.t x3 e8)))
  | bk l => exact k2.elim
  | ct l => exact k2.elim
end
section
variable {α A R : Type} {P : Program} {w : World} {K : PySem.W.Frag} {mg : Str → Option Value} {base : Heap} {k : Nat} {f : Addr} {fd : FuncData} {N ps : List Str} {x qual : Str} {st : Stmt} {ec : ET}
/-- a def that may raise: its value -/
theorem okVX [Py α] {ar : AR A} {n : Nat} {Da : A → List Sl} {m : A → W α} (F : Fun K x qual st f fd) (S : FnScope N ps (defScope st)) (L : ArFr ar n Da) (hn : ps.length = n)
    (body : ∀ (cdv : Value) (A' : Around) (outer : List Env) (s : Shared) (H : Hp) (E : XK), (cxOf (L2.CX P w) P w K mg base N qual (defScope st) f cdv A' outer s H E).A.guards = some [] →
      Room k (cxOf (L2.CX P w) P w K mg base N qual (defScope st) f cdv A' outer s H E).A →
      ∃ t, PSs (cxOf (L2.CX P w) P w K mg base N qual (defScope st) f cdv A' outer s H E) (defBody st) t ∧ ∀ a, StR (XPw ec N.length fun c d _ H => E c d H) rmV (Da a ++ List.replicate (N.length - n) .any) t (m a)) :
    FnG P w K mg base (L2.CX P w) (k + 1) f fd ps (SpV (XEr ec) ar m) :=
  okG F S (fun vs H Q E ⟨B, O, G, a, s, r, q⟩ => by rw [L.len r, hn]) fun cdv A' outer s H vs Q E gd room ⟨B, O, G, a, sx, r, q⟩ => by
    obtain ⟨t, ht, hb⟩ := body cdv A' outer s H E gd room
    exact ⟨t, ht, hb a (frStart L r) (O := []) sx (fun _ _ z => z) ((m a).mono (fun r k G1 e v G2 H2 e2 s2 rr => k v G2 H2 (Ex.t e e2) s2 rr) (fun e he G1 e1 c f hc σ G' H' d _ e2 s2 hd => he G1 e1 c f hc [] G' H' d rfl e2 s2 hd) q)⟩
theorem okOX [Py α] {ar : AR A} {n : Nat} {Da : A → List Sl} {m : A → W (List α)} (F : Fun K x qual st f fd) (S : FnScope N ps (defScope st)) (L : ArFr ar n Da) (hn : ps.length = n)
    (body : ∀ (cdv : Value) (A' : Around) (outer : List Env) (s : Shared) (H : Hp) (E : XK), (cxOf (L2.CX P w) P w K mg base N qual (defScope st) f cdv A' outer s H E).A.guards = some [] →
      Room k (cxOf (L2.CX P w) P w K mg base N qual (defScope st) f cdv A' outer s H E).A →
      ∃ t, PSs (cxOf (L2.CX P w) P w K mg base N qual (defScope st) f cdv A' outer s H E) (defBody st) t ∧ ∀ a, StR (XPw ec N.length fun c d _ H => E c d H) rmO (Da a ++ List.replicate (N.length - n) .any) t (m a)) :
    FnG P w K mg base (L2.CX P w) (k + 1) f fd ps (SpO (XEr ec) ar m) :=
  okG F S (fun vs H Q E ⟨B, O, G, a, s, r, q⟩ => by rw [L.len r, hn]) fun cdv A' outer s H vs Q E gd room ⟨B, O, G, a, sx, r, q⟩ => by
    obtain ⟨t, ht, hb⟩ := body cdv A' outer s H E gd room
    exact ⟨t, ht, hb a (frStart L r) (O := []) sx (fun _ _ z => z) ((m a).mono (fun r k G1 e v ws G2 H2 e2 s2 rr => k v ws G2 H2 (Ex.t e e2) s2 rr) (fun e he G1 e1 c f hc σ G' H' d _ e2 s2 hd => he G1 e1 c f hc [] G' H' d rfl e2 s2 hd) q)⟩
theorem okUX {ar : AR A} {n : Nat} {Da : A → List Sl} {m : A → W Unit} (F : Fun K x qual st f fd) (S : FnScope N ps (defScope st)) (L : ArFr ar n Da) (hn : ps.length = n)
    (body : ∀ (cdv : Value) (A' : Around) (outer : List Env) (s : Shared) (H : Hp) (E : XK), (cxOf (L2.CX P w) P w K mg base N qual (defScope st) f cdv A' outer s H E).A.guards = some [] →
      Room k (cxOf (L2.CX P w) P w K mg base N qual (defScope st) f cdv A' outer s H E).A →
      ∃ t, PSs (cxOf (L2.CX P w) P w K mg base N qual (defScope st) f cdv A' outer s H E) (defBody st) t ∧ ∀ a, StR (XPw ec N.length fun c d _ H => E c d H) rmU (Da a ++ List.replicate (N.length - n) .any) t (m a)) :
    FnG P w K mg base (L2.CX P w) (k + 1) f fd ps (SpU (XEr ec) ar m) :=
  okG F S (fun vs H Q E ⟨B, O, G, a, s, r, q⟩ => by rw [L.len r, hn]) fun cdv A' outer s H vs Q E gd room ⟨B, O, G, a, sx, r, q⟩ => by
    obtain ⟨t, ht, hb⟩ := body cdv A' outer s H E gd room
    exact ⟨t, ht, hb a (frStart L r) (O := []) sx (fun _ _ z => z) ((m a).mono (fun r k G1 e G2 H2 e2 s2 => k G2 H2 (Ex.t e e2) s2) (fun e he G1 e1 c f hc σ G' H' d _ e2 s2 hd => he G1 e1 c f hc [] G' H' d rfl e2 s2 hd) q)⟩
theorem okFX {α : Type} {p : PO α} {ar : AR A} {n : Nat} {Da : A → List Sl} {m : A → W α} (F : Fun K x qual st f fd) (S : FnScope N ps (defScope st)) (L : ArFr ar n Da) (hn : ps.length = n)
    (body : ∀ (cdv : Value) (A' : Around) (outer : List Env) (s : Shared) (H : Hp) (E : XK), (cxOf (L2.CX P w) P w K mg base N qual (defScope st) f cdv A' outer s H E).A.guards = some [] →
      Room k (cxOf (L2.CX P w) P w K mg base N qual (defScope st) f cdv A' outer s H E).A →
      ∃ t, PSs (cxOf (L2.CX P w) P w K mg base N qual (defScope st) f cdv A' outer s H E) (defBody st) t ∧ ∀ a, StR (XPw ec N.length fun c d _ H => E c d H) (rmF p) (Da a ++ List.replicate (N.length - n) .any) t (m a)) :
    FnG P w K mg base (L2.CX P w) (k + 1) f fd ps (SpF' p (XEr ec) ar m) :=
  okG F S (fun vs H Q E ⟨B, O, G, a, s, r, q⟩ => by rw [L.len r, hn]) fun cdv A' outer s H vs Q E gd room ⟨B, O, G, a, sx, r, q⟩ => by
    obtain ⟨t, ht, hb⟩ := body cdv A' outer s H E gd room
    exact ⟨t, ht, hb a (frStart L r) (O := []) sx (fun _ _ z => z) ((m a).mono (fun r k G1 e v o G2 H2 e2 s2 rr => k v o G2 H2 (Ex.t e e2) s2 rr) (fun e he G1 e1 c f hc σ G' H' d _ e2 s2 hd => he G1 e1 c f hc [] G' H' d rfl e2 s2 hd) q)⟩
end
end Dk

set_option Elab.async false
set_option linter.all false
set_option maxRecDepth 100000
set_option maxHeartbeats 1000000
namespace Dk
open PySem PySem.Spec PyProof.Rows L2
open Evl (Ex)
open Py (rp)
open PyD (pic)
/-! ### values of one of two kinds -/
instance instPySum {α β : Type} [i : Py α] [j : Py β] : Py (α ⊕ β) where
  rp := fun G v x => match x with
    | .inl a => i.rp G v a
    | .inr b => j.rp G v b
  up := fun {G G' v x} e h => match x, h with
    | .inl _, h => i.up e h
    | .inr _, h => j.up e h
instance {α β : Type} [Py α] [Py β] [NN α] [NN β] : NN (α ⊕ β) := ⟨fun {G v x} h e => match x, h with
  | .inl a, h => NN.nn (α := α) h e
  | .inr a, h => NN.nn (α := β) h e⟩
instance {α β : Type} [Py α] [Py β] [Firm α] [Firm β] : Firm (α ⊕ β) := ⟨fun {G l vs v x} hl h => match x, h with
  | .inl _, h => Firm.keep (β := α) hl h
  | .inr _, h => Firm.keep (β := β) hl h⟩
instance : PyD Unit where
  pic := fun _ => .none
  ok := fun _ => True
  okr := fun _ => True
  size := fun _ => 0
  deep := 0
  dp := fun _ h => by rw [show _ = V.non from h]; exact .non
  lay := fun _ => by simp only [PyData.canLay0]
  dep := fun _ => by simp only [PyData.depth]; omega
  eqd := fun a b => by simp only [PyData.eqv]; rfl
  sh := fun _ => ⟨by simp only [PyData.leavesShort], by simp only [PyData.showable], by simp only [PyData.hasDict]⟩
  bk := fun _ => by simp only [PyData.bulk]; omega
/-- never equal -/
class Apart (α β : Type) [DecidableEq α] [PyD α] [DecidableEq β] [PyD β] : Prop where
  l : ∀ (a : α) (b : β), PyData.eqv (pic a) (pic b) = false
  r : ∀ (a : α) (b : β), PyData.eqv (pic b) (pic a) = false
section
variable {α β γ δ : Type} [DecidableEq α] [PyD α] [DecidableEq β] [PyD β] [DecidableEq γ] [PyD γ] [DecidableEq δ] [PyD δ]
theorem Apart.symm (h : Apart α β) : Apart β α := ⟨fun a b => h.r b a, fun a b => h.l b a⟩
instance instPyDSum [ap : Apart α β] : PyD (α ⊕ β) where
  pic := fun x => match x with | .inl a => pic a | .inr b => pic b
  ok := fun x => match x with | .inl a => PyD.ok a | .inr b => PyD.ok b
  okr := fun x => match x with | .inl a => PyD.okr a | .inr b => PyD.okr b
  size := fun x => match x with | .inl a => PyD.size a | .inr b => PyD.size b
  deep := max (PyD.deep α) (PyD.deep β)
  dp := fun {K G H v x} e h => match x, h with
    | .inl a, h => PyD.dp (α := α) e h
    | .inr b, h => PyD.dp (α := β) e h
  lay := fun {x} h => match x, h with
    | .inl a, h => PyD.lay (α := α) h
    | .inr b, h => PyD.lay (α := β) h
  dep := fun x => match x with
    | .inl a => Nat.le_trans (PyD.dep a) (Nat.le_max_left ..)
    | .inr b => Nat.le_trans (PyD.dep b) (Nat.le_max_right ..)
  eqd := fun x y => match x, y with
    | .inl a, .inl b => by rw [PyD.eqd]; exact decide_eq_decide.mpr ⟨fun e => by rw [e], fun e => Sum.inl.inj e⟩
    | .inr a, .inr b => by rw [PyD.eqd]; exact decide_eq_decide.mpr ⟨fun e => by rw [e], fun e => Sum.inr.inj e⟩
    | .inl a, .inr b => by rw [ap.l a b]; rfl
    | .inr b, .inl a => by rw [ap.r a b]; rfl
  sh := fun {x} h => match x, h with
    | .inl a, h => PyD.sh (α := α) h
    | .inr b, h => PyD.sh (α := β) h
  bk := fun x => match x with
    | .inl a => PyD.bk a
    | .inr b => PyD.bk b
end
section
variable {α β γ δ ε : Type} [DecidableEq α] [PyD α] [DecidableEq β] [PyD β] [DecidableEq γ] [PyD γ] [DecidableEq δ] [PyD δ] [DecidableEq ε] [PyD ε]
instance ap_LP : Apart (List α) (β × γ) := ⟨fun a b => by show PyData.eqv (.list _) (.tuple _) = false; simp only [PyData.eqv], fun a b => by show PyData.eqv (.tuple _) (.list _) = false; simp only [PyData.eqv]⟩
instance ap_PL : Apart (β × γ) (List α) := ap_LP.symm
instance ap_LS : Apart (List α) Str := ⟨fun a b => by show PyData.eqv (.list _) (.str _) = false; simp only [PyData.eqv], fun a b => by show PyData.eqv (.str _) (.list _) = false; simp only [PyData.eqv]⟩
instance ap_SL : Apart Str (List α) := ap_LS.symm
instance ap_LI : Apart (List α) Int := ⟨fun a b => by show PyData.eqv (.list _) (.int _) = false; simp only [PyData.eqv], fun a b => by show PyData.eqv (.int _) (.list _) = false; simp only [PyData.eqv]⟩
instance ap_IL : Apart Int (List α) := ap_LI.symm
instance ap_LU : Apart (List α) Unit := ⟨fun a b => by show PyData.eqv (.list _) .none = false; simp only [PyData.eqv], fun a b => by show PyData.eqv .none (.list _) = false; simp only [PyData.eqv]⟩
instance ap_UL : Apart Unit (List α) := ap_LU.symm
instance ap_SI : Apart Str Int := ⟨fun a b => by show PyData.eqv (.str _) (.int _) = false; simp only [PyData.eqv], fun a b => by show PyData.eqv (.int _) (.str _) = false; simp only [PyData.eqv]⟩
instance ap_IS : Apart Int Str := ap_SI.symm
instance ap_SU : Apart Str Unit := ⟨fun a b => by show PyData.eqv (.str _) .none = false; simp only [PyData.eqv], fun a b => by show PyData.eqv .none (.str _) = false; simp only [PyData.eqv]⟩
instance ap_US : Apart Unit Str := ap_SU.symm
instance ap_IU : Apart Int Unit := ⟨fun a b => by show PyData.eqv (.int _) .none = false; simp only [PyData.eqv], fun a b => by show PyData.eqv .none (.int _) = false; simp only [PyData.eqv]⟩
instance ap_UI : Apart Unit Int := ap_IU.symm
instance ap_PS : Apart (α × β) Str := ⟨fun a b => by show PyData.eqv (.tuple _) (.str _) = false; simp only [PyData.eqv], fun a b => by show PyData.eqv (.str _) (.tuple _) = false; simp only [PyData.eqv]⟩
instance ap_SP : Apart Str (α × β) := ap_PS.symm
instance ap_PI : Apart (α × β) Int := ⟨fun a b => by show PyData.eqv (.tuple _) (.int _) = false; simp only [PyData.eqv], fun a b => by show PyData.eqv (.int _) (.tuple _) = false; simp only [PyData.eqv]⟩
instance ap_IP : Apart Int (α × β) := ap_PI.symm
instance ap_PU : Apart (α × β) Unit := ⟨fun a b => by show PyData.eqv (.tuple _) .none = false; simp only [PyData.eqv], fun a b => by show PyData.eqv .none (.tuple _) = false; simp only [PyData.eqv]⟩
instance ap_UP : Apart Unit (α × β) := ap_PU.symm
instance ap_TP : Apart (Tp3 α β γ) (δ × ε) := ⟨fun a b => by show PyData.eqv (.tuple [_, _, _]) (.tuple [_, _]) = false; simp only [PyData.eqv, PyData.eqvAll, Bool.and_false], fun a b => by show PyData.eqv (.tuple [_, _]) (.tuple [_, _, _]) = false; simp only [PyData.eqv, PyData.eqvAll, Bool.and_false]⟩
instance ap_PT : Apart (δ × ε) (Tp3 α β γ) := ap_TP.symm
instance ap_1 [h : Apart α β] : Apart (α × γ) (β × δ) := ⟨fun a b => by show PyData.eqv (.tuple [_, _]) (.tuple [_, _]) = false; simp only [PyData.eqv, PyData.eqvAll, h.l, Bool.false_and], fun a b => by show PyData.eqv (.tuple [_, _]) (.tuple [_, _]) = false; simp only [PyData.eqv, PyData.eqvAll, h.r, Bool.false_and]⟩
instance ap_2 [h : Apart γ δ] : Apart (α × γ) (β × δ) := ⟨fun a b => by show PyData.eqv (.tuple [_, _]) (.tuple [_, _]) = false; simp only [PyData.eqv, PyData.eqvAll, h.l, Bool.false_and, Bool.and_false], fun a b => by show PyData.eqv (.tuple [_, _]) (.tuple [_, _]) = false; simp only [PyData.eqv, PyData.eqvAll, h.r, Bool.false_and, Bool.and_false]⟩
instance ap_SumL [h : Apart β γ] [k : Apart α γ] [Apart α β] : Apart (α ⊕ β) γ := ⟨fun a b => match a with | .inl a => k.l a b | .inr a => h.l a b, fun a b => match a with | .inl a => k.r a b | .inr a => h.r a b⟩
instance ap_SumR [h : Apart γ β] [k : Apart γ α] [Apart α β] : Apart γ (α ⊕ β) := ⟨fun a b => match b with | .inl b => k.l a b | .inr b => h.l a b, fun a b => match b with | .inl b => k.r a b | .inr b => h.r a b⟩
end
/-! ### owned -/
def PO.sum {α β : Type} (p : PO α) (q : PO β) : PO (α ⊕ β) where
  py := @instPySum α β p.py q.py
  rp := fun G v x o => match x with
    | .inl a => p.rp G v a o
    | .inr b => q.rp G v b o
  up := fun {G G' v x o} e h => match x, h with
    | .inl _, h => p.up e h
    | .inr _, h => q.up e h
  lists := fun {G v x o} h r hr => match x, h with
    | .inl _, h => p.lists h r hr
    | .inr _, h => q.lists h r hr
  frz := fun {G G' v x o} e f h => match x, h with
    | .inl _, h => p.frz e f h
    | .inr _, h => q.frz e f h
section
variable {α β γ S A : Type} {XP : XPost} {D : List Sl} {te ta tb : TE} {B : Option Addr} {O O0 : Ow} {G H : Hp} {σ : L2.St} {K : PySem.W.Frag} {i : Nat}
instance firmp_sum {p : PO α} {q : PO β} [f : FirmP p] [g : FirmP q] : FirmP (PO.sum p q) := ⟨fun {G l vs v x o} hl h => by
  cases x with
  | inl a => exact f.keep hl h
  | inr b => exact g.keep hl h⟩
theorem EWF.inl {p : PO α} {q : PO β} {m : W α} (h : EWF XP p D te m) : EWF XP (PO.sum p q) D te (m.bind fun a => W.pure (.inl a)) := fun B O0 O G H σ Q fr s z => h fr s z
theorem EWF.inr {p : PO α} {q : PO β} {m : W β} (h : EWF XP q D te m) : EWF XP (PO.sum p q) D te (m.bind fun a => W.pure (.inr a)) := fun B O0 O G H σ Q fr s z => h fr s z
theorem EWF.left {p : PO α} {q : PO β} {m : W (α ⊕ β)} (h : EWF XP (PO.sum p q) D te m) : EWF XP p D te (m.bind fun x => W.get x.getLeft?) := fun B O0 O G H σ Q fr s z => h fr s (m.mono (fun x ⟨a, e, k⟩ v o G2 H2 e2 s2 r => by
  cases x with
  | inl b => obtain rfl : b = a := Option.some.inj e; exact k v o G2 H2 e2 s2 r
  | inr b => cases e) (fun _ x => x) z)
theorem EWF.right {p : PO α} {q : PO β} {m : W (α ⊕ β)} (h : EWF XP (PO.sum p q) D te m) : EWF XP q D te (m.bind fun x => W.get x.getRight?) := fun B O0 O G H σ Q fr s z => h fr s (m.mono (fun x ⟨a, e, k⟩ v o G2 H2 e2 s2 r => by
  cases x with
  | inr b => obtain rfl : b = a := Option.some.inj e; exact k v o G2 H2 e2 s2 r
  | inl b => cases e) (fun _ x => x) z)
section
variable [Py α] [Py β] [Py γ]
theorem EW.inl {m : W α} (h : EW XP D te m) : EW (α := α ⊕ β) XP D te (m.bind fun a => W.pure (.inl a)) := fun B O0 O G H σ Q fr s z => h fr s z
theorem EW.inr {m : W β} (h : EW XP D te m) : EW (α := α ⊕ β) XP D te (m.bind fun a => W.pure (.inr a)) := fun B O0 O G H σ Q fr s z => h fr s z
theorem EW.left {m : W (α ⊕ β)} (h : EW XP D te m) : EW (α := α) XP D te (m.bind fun x => W.get x.getLeft?) := fun B O0 O G H σ Q fr s z => h fr s (m.mono (fun x ⟨a, e, k⟩ v G2 H2 e2 s2 r => by
  cases x with
  | inl b => obtain rfl : b = a := Option.some.inj e; exact k v G2 H2 e2 s2 r
  | inr b => cases e) (fun _ x => x) z)
theorem EW.right {m : W (α ⊕ β)} (h : EW XP D te m) : EW (α := β) XP D te (m.bind fun x => W.get x.getRight?) := fun B O0 O G H σ Q fr s z => h fr s (m.mono (fun x ⟨a, e, k⟩ v G2 H2 e2 s2 r => by
  cases x with
  | inr b => obtain rfl : b = a := Option.some.inj e; exact k v G2 H2 e2 s2 r
  | inl b => cases e) (fun _ x => x) z)
/-- an index that means the same of both kinds -/
theorem w_ix21 (p : α × β) : Op2W (rIx K) p (0 : Int) (W.pure p.1) := fun B O G H v w s hv hw Q E q => by
  obtain ⟨t, y, z, rfl, h2, h3, h4⟩ := hv
  obtain rfl : w = .int 0 := hw
  exact ixT (i := 0) s h2 rfl h3 q
theorem w_ix22 (p : α × β) : Op2W (rIx K) p (1 : Int) (W.pure p.2) := fun B O G H v w s hv hw Q E q => by
  obtain ⟨t, y, z, rfl, h2, h3, h4⟩ := hv
  obtain rfl : w = .int 1 := hw
  exact ixT (i := 1) s h2 rfl h4 q
theorem w_ixSum {j : Int} {f : α → W γ} {g : β → W γ} (h1 : ∀ x, Op2W (rIx K) x j (f x)) (h2 : ∀ x, Op2W (rIx K) x j (g x)) (x : α ⊕ β) : Op2W (rIx K) x j (Sum.elim f g x) := by
  cases x with
  | inl a => exact fun B O G H v w s hv hw Q E q => h1 a B O G H v w s hv hw Q E q
  | inr b => exact fun B O G H v w s hv hw Q E q => h2 b B O G H v w s hv hw Q E q
end
/-! ### a part of what a slot owns, changed -/
def OPu {α β : Type} (D : List Sl) (i : Nat) (te : TE) (P : PO α) (p : PO β) (ob : Option β) (put : β → Option α) : Prop :=
  ∀ ⦃B : Option Addr⦄ ⦃O0 O : Ow⦄ ⦃G H : Hp⦄ ⦃σ : L2.St⦄ ⦃Q : VK⦄, Fr B G D σ O → Sx B (O ++ O0) G H → ∀ b, ob = some b →
    (∀ v o r, p.rp G v b o → Sx B (o ++ (r ++ O0)) G H → (∀ G' b' o' a', Ex G G' → p.rp G' v b' o' → put b' = some a' → ∃ O', Fr B G' (D.set i (.ov P a')) σ O' ∧ O'.Perm (o' ++ r)) → Q v H) → te σ H Q
theorem OPu.name {p : PO α} {a : α} (hi : D[i]? = some (.ov p a)) : OPu D i (tVar i) p p (some a) some := fun B O0 O G H σ Q fr s b e k => by
  obtain ⟨O1, o, O2, u, e1, e2, r, z⟩ := fr.ovAt hi
  obtain rfl : a = b := Option.some.inj e
  subst e1
  refine ⟨u, e2, k u o (O1 ++ O2) r (s.perm (by rw [← List.append_assoc o]; exact app_swap.append_right O0)) fun G' b' o' a' x r' ea => ?_⟩
  obtain rfl : b' = a' := Option.some.inj ea
  have f := z G' (.ov p b') (some u) o' x ⟨u, rfl, r'⟩
  rw [set_same e2] at f
  exact ⟨_, f, app_swap⟩
theorem OPu.get {P : PO α} {p : PO β} {ob : Option (Option β)} {put : Option β → Option α} (h : OPu D i te P (PO.opt p) ob put) : OPu D i te P p (ob.bind id) (fun b => put (some b)) := fun B O0 O G H σ Q fr s b e k => by
  cases ob with
  | none => cases e
  | some x =>
    cases x with
    | none => cases e
    | some y =>
      obtain rfl : y = b := Option.some.inj e
      exact h fr s (some y) rfl fun v o r f s2 w => k v o r f s2 fun G' b' o' a' x r' ea => w G' (some b') o' a' x r' ea
theorem OPu.left {P : PO α} {p : PO β} {q : PO γ} {ob : Option (β ⊕ γ)} {put : β ⊕ γ → Option α} (h : OPu D i te P (PO.sum p q) ob put) : OPu D i te P p (ob.bind Sum.getLeft?) (fun b => put (.inl b)) := fun B O0 O G H σ Q fr s b e k => by
  cases ob with
  | none => cases e
  | some x =>
    cases x with
    | inr y => cases e
    | inl y =>
      obtain rfl : y = b := Option.some.inj e
      exact h fr s (.inl y) rfl fun v o r f s2 w => k v o r f s2 fun G' b' o' a' x r' ea => w G' (.inl b') o' a' x r' ea
theorem OPu.right {P : PO α} {p : PO β} {q : PO γ} {ob : Option (β ⊕ γ)} {put : β ⊕ γ → Option α} (h : OPu D i te P (PO.sum p q) ob put) : OPu D i te P q (ob.bind Sum.getRight?) (fun b => put (.inr b)) := fun B O0 O G H σ Q fr s b e k => by
  cases ob with
  | none => cases e
  | some x =>
    cases x with
    | inl y => cases e
    | inr y =>
      obtain rfl : y = b := Option.some.inj e
      exact h fr s (.inr y) rfl fun v o r f s2 w => k v o r f s2 fun G' b' o' a' x r' ea => w G' (.inr b') o' a' x r' ea
theorem OPu.ix0 {P : PO α} {p : PO β} {q : PO γ} {ob : Option (β × γ)} {put : β × γ → Option α} (h : OPu D i te P (PO.pair p q) ob put) : OPu D i (tOp (rIx K) te (tC (.int 0))) P p (ob.map (·.1)) (fun b => ob.bind fun x => put (b, x.2)) := fun B O0 O G H σ Q fr s b e k => by
  cases ob with
  | none => cases e
  | some x =>
    obtain rfl : x.1 = b := Option.some.inj e
    refine h fr s x rfl fun v o r ⟨t, y, z, o1, o2, h1, h2, h3, h4, h5⟩ s2 w => ?_
    subst h1; subst h3
    refine ixP (j := 0) s2 h2 rfl (k y o1 (o2 ++ r) h4 (by rw [List.append_assoc] at s2; rw [List.append_assoc]; exact s2) fun G' b' o' a' ex r' ea => ?_)
    obtain ⟨O', f, pm⟩ := w G' (b', x.2) (o' ++ o2) a' ex ⟨t, y, z, o', o2, rfl, ex t _ h2, rfl, r', q.up ex h5⟩ ea
    exact ⟨O', f, by rw [List.append_assoc] at pm; exact pm⟩
theorem OPu.ix1 {P : PO α} {p : PO β} {q : PO γ} {ob : Option (β × γ)} {put : β × γ → Option α} (h : OPu D i te P (PO.pair p q) ob put) : OPu D i (tOp (rIx K) te (tC (.int 1))) P q (ob.map (·.2)) (fun b => ob.bind fun x => put (x.1, b)) := fun B O0 O G H σ Q fr s b e k => by
  cases ob with
  | none => cases e
  | some x =>
    obtain rfl : x.2 = b := Option.some.inj e
    refine h fr s x rfl fun v o r ⟨t, y, z, o1, o2, h1, h2, h3, h4, h5⟩ s2 w => ?_
    subst h1; subst h3
    refine ixP (j := 1) s2 h2 rfl (k z o2 (o1 ++ r) h5 (s2.perm ?_) fun G' b' o' a' ex r' ea => ?_)
    · rw [List.append_assoc o1 o2, List.append_assoc o1 r, ← List.append_assoc o1]
      exact app_swap
    · obtain ⟨O', f, pm⟩ := w G' (x.1, b') (o1 ++ o') a' ex ⟨t, y, z, o1, o', rfl, ex t _ h2, rfl, p.up ex h4, r'⟩ ea
      exact ⟨O', f, pm.trans app_swap⟩
/-- what is left after a list was changed -/
theorem mut_end {P : PO α} {p : PO β} {l : Addr} {ws ws' : List V} {r rr O' : Ow} (s : Sx B (((l, .lst ws) :: r) ++ (rr ++ O0)) G H) (pm : O'.Perm (((l, .lst ws') :: r) ++ rr)) : Sx B (O' ++ O0) G (upd H l (.lst ws')) := by
  refine Sx.perm (Sx.put (o' := .lst ws') s) ?_
  show (((l, HO.lst ws') :: r) ++ (rr ++ O0)).Perm _
  rw [← List.append_assoc]
  exact pm.symm.append_right O0
theorem PoL.rev {p : PO β} {ws : List V} {xs : List β} {r : Ow} (h : PoL p G ws xs r) : ∃ r', PoL p G ws.reverse xs.reverse r' ∧ r'.Perm r := by
  induction h with
  | nil => exact ⟨[], .nil, .refl _⟩
  | @cons v x o vs xs r a t ih =>
    obtain ⟨r', h1, h2⟩ := ih
    refine ⟨r' ++ o, ?_, (h2.append_right o).trans List.perm_append_comm⟩
    rw [List.reverse_cons, List.reverse_cons]
    exact h1.snoc a
theorem StW.putReverse {P : PO α} {p : PO β} {ob : Option (List β)} {put : List β → Option α} (h : OPu D i te P (PO.list p) ob put) :
    StW XP D (tDrop (tBM K "list" rReverse te tNil)) ((W.get ob).bind fun xs => W.get (put xs.reverse)) fun a => D.set i (.ov P a) := fun B O0 O G H σ Ds fr s ⟨b, e, a, ea, q⟩ => by
  refine h fr s b e fun v o r ⟨l, ws, r0, h1, h2, h3⟩ s2 w => ?_
  subst h1; subst h2
  have hl := (Sx.head s2).1
  obtain ⟨r', h4, h5⟩ := h3.rev
  obtain ⟨O', f, pm⟩ := w G b.reverse ((l, .lst ws.reverse) :: r') a Ex.r ⟨l, ws.reverse, r', rfl, rfl, h4⟩ ea
  exact ⟨.inl ⟨rfl, ws, SqL.of hl⟩, l, ws, rfl, rfl, hl, q σ O' G _ Ex.r f (mut_end (P := P) (p := p) s2 (pm.trans (by
    rw [List.cons_append, List.cons_append]
    exact (h5.append_right r).cons _)))⟩
theorem StW.putClear {P : PO α} {p : PO β} {ob : Option (List β)} {put : List β → Option α} (h : OPu D i te P (PO.list p) ob put) :
    StW XP D (tDrop (tBM K "list" rClear te tNil)) ((W.get ob).bind fun _ => W.get (put [])) fun a => D.set i (.ov P a) := fun B O0 O G H σ Ds fr s ⟨b, e, a, ea, q⟩ => by
  refine h fr s b e fun v o r ⟨l, ws, r0, h1, h2, h3⟩ s2 w => ?_
  subst h1; subst h2
  have hl := (Sx.head s2).1
  obtain ⟨O', f, pm⟩ := w G [] [(l, .lst [])] a Ex.r ⟨l, [], [], rfl, rfl, .nil⟩ ea
  refine ⟨.inl ⟨rfl, ws, SqL.of hl⟩, l, ws, rfl, rfl, hl, q σ O' G _ Ex.r f ?_⟩
  exact mut_end (P := P) (p := p) (r := []) (ws := ws) (s2.sub (by
    rw [List.cons_append, List.cons_append]
    exact List.Sublist.cons₂ _ (List.sublist_append_right _ _))) pm
theorem StW.putAppend [Py β] {P : PO α} {ob : Option (List β)} {put : List β → Option α} {v : V} {y : β} (h : OPu D i te P (PO.list (PO.st (α := β))) ob put) (hv : ∀ G, rp G v y) :
    StW XP D (tDrop (tBM K "list" rAppend te (tCons (tC v) tNil))) ((W.get ob).bind fun xs => W.chk (xs.length ≤ 1000000) (W.get (put (xs ++ [y])))) fun a => D.set i (.ov P a) := fun B O0 O G H σ Ds fr s ⟨b, e, c, a, ea, q⟩ => by
  refine h fr s b e fun u o r ⟨l, ws, r0, h1, h2, h3⟩ s2 w => ?_
  subst h1; subst h2
  have hl := (Sx.head s2).1
  obtain ⟨h4, h5⟩ := h3.to
  subst h5
  obtain ⟨O', f, pm⟩ := w G (b ++ [y]) [(l, .lst (ws ++ [v]))] a Ex.r ⟨l, ws ++ [v], [], rfl, rfl, .of (all2_app h4 (all2_one (hv G)))⟩ ea
  exact ⟨.inl ⟨rfl, ws, SqL.of hl⟩, l, ws, v, rfl, rfl, hl, line_lt (by rw [all2_len h4]; exact c), q σ O' G _ Ex.r f (mut_end (P := P) (p := PO.st (α := β)) (r := []) s2 pm)⟩
/-! ### .. changed, and forgotten -/
def OPj (D : List Sl) (i : Nat) (te : TE) (on : Option Nat) : Prop :=
  ∀ ⦃B : Option Addr⦄ ⦃O0 O : Ow⦄ ⦃G H : Hp⦄ ⦃σ : L2.St⦄ ⦃Q : VK⦄, Fr B G D σ O → Sx B (O ++ O0) G H → ∀ n, on = some n →
    (∀ l ws r O', ws.length = n → Fr B G (D.set i .any) σ O' → Sx B (((l, .lst ws) :: r) ++ (O' ++ O0)) G H → Q (.ref l) H) → te σ H Q
def OPx {β : Type} (p : PO β) (step : TE → TE) (f : β → Option Nat) : Prop := ∀ ⦃D : List Sl⦄ ⦃i : Nat⦄ ⦃te : TE⦄ ⦃ob : Option β⦄, OPt D i te p ob → OPj D i (step te) (ob.bind f)
theorem OPx.go {p : PO β} {step : TE → TE} {f : β → Option Nat} {a : β} (h : OPx p step f) (hi : D[i]? = some (.ov p a)) : OPj D i (step (tVar i)) (f a) := h (OPt.name hi)
theorem OPx.list {p : PO β} : OPx (PO.list p) (fun te => te) (fun xs => some xs.length) := fun D i te ob h B O0 O G H σ Q fr s n e k => by
  cases ob with
  | none => cases e
  | some b =>
    obtain rfl : b.length = n := Option.some.inj e
    exact h fr s b rfl fun v o O' ⟨l, ws, r, h1, h2, h3⟩ f s2 => by
      subst h1; subst h2
      exact k l ws r O' h3.len f s2
theorem OPx.no {p : PO β} {step : TE → TE} : OPx p step (fun _ => none) := fun D i te ob h B O0 O G H σ Q fr s n e k => by cases ob <;> cases e
theorem OPx.ix0 {p : PO β} {q : PO γ} {step : TE → TE} {f : β → Option Nat} (h : OPx p step f) : OPx (PO.pair p q) (fun te => step (tOp (rIx K) te (tC (.int 0)))) (fun x => f x.1) := fun D i te ob h' B O0 O G H σ Q fr s n e k => by
  refine h (OPt.ix0 h') fr s n ?_ k
  cases ob with
  | none => cases e
  | some b => exact e
theorem OPx.ix1 {p : PO β} {q : PO γ} {step : TE → TE} {f : γ → Option Nat} (h : OPx q step f) : OPx (PO.pair p q) (fun te => step (tOp (rIx K) te (tC (.int 1)))) (fun x => f x.2) := fun D i te ob h' B O0 O G H σ Q fr s n e k => by
  refine h (OPt.ix1 h') fr s n ?_ k
  cases ob with
  | none => cases e
  | some b => exact e
theorem OPx.get {p : PO β} {step : TE → TE} {f : β → Option Nat} (h : OPx p step f) : OPx (PO.opt p) step (fun x => x.bind f) := fun D i te ob h' B O0 O G H σ Q fr s n e k => by
  refine h (OPt.get h') fr s n ?_ k
  cases ob with
  | none => cases e
  | some b => exact e
theorem OPt.left {p : PO β} {q : PO γ} {ob : Option (β ⊕ γ)} (h : OPt D i te (PO.sum p q) ob) : OPt D i te p (ob.bind Sum.getLeft?) := fun B O0 O G H σ Q fr s b e k => by
  cases ob with
  | none => cases e
  | some x =>
    cases x with
    | inr y => cases e
    | inl y =>
      obtain rfl : y = b := Option.some.inj e
      exact h fr s (.inl y) rfl k
theorem OPt.right {p : PO β} {q : PO γ} {ob : Option (β ⊕ γ)} (h : OPt D i te (PO.sum p q) ob) : OPt D i te q (ob.bind Sum.getRight?) := fun B O0 O G H σ Q fr s b e k => by
  cases ob with
  | none => cases e
  | some x =>
    cases x with
    | inl y => cases e
    | inr y =>
      obtain rfl : y = b := Option.some.inj e
      exact h fr s (.inr y) rfl k
theorem OPx.sum {p : PO β} {q : PO γ} {step : TE → TE} {f : β → Option Nat} {g : γ → Option Nat} (h1 : OPx p step f) (h2 : OPx q step g) : OPx (PO.sum p q) step (Sum.elim f g) := fun D i te ob h B O0 O G H σ Q fr s n e k => by
  cases ob with
  | none => cases e
  | some x =>
    cases x with
    | inl y => exact h1 (OPt.left h) fr s n e k
    | inr y => exact h2 (OPt.right h) fr s n e k
theorem junk_end {l : Addr} {ws ws' : List V} {r O' : Ow} (s : Sx B (((l, .lst ws) :: r) ++ (O' ++ O0)) G H) : Sx B (O' ++ O0) G (upd H l (.lst ws')) :=
  (Sx.put (o' := .lst ws') s).sub (((List.sublist_append_right r (O' ++ O0)).cons _))
theorem StW.junkReverse {on : Option Nat} (h : OPj D i te on) : StW XP D (tDrop (tBM K "list" rReverse te tNil)) ((W.get on).bind fun _ => W.pure ()) fun _ => D.set i .any := fun B O0 O G H σ Ds fr s ⟨n, e, q⟩ =>
  h fr s n e fun l ws r O' _ f s2 => ⟨.inl ⟨rfl, ws, SqL.of (Sx.head s2).1⟩, l, ws, rfl, rfl, (Sx.head s2).1, q σ _ G _ Ex.r f (junk_end s2)⟩
theorem StW.junkClear {on : Option Nat} (h : OPj D i te on) : StW XP D (tDrop (tBM K "list" rClear te tNil)) ((W.get on).bind fun _ => W.pure ()) fun _ => D.set i .any := fun B O0 O G H σ Ds fr s ⟨n, e, q⟩ =>
  h fr s n e fun l ws r O' _ f s2 => ⟨.inl ⟨rfl, ws, SqL.of (Sx.head s2).1⟩, l, ws, rfl, rfl, (Sx.head s2).1, q σ _ G _ Ex.r f (junk_end s2)⟩
theorem StW.junkAppend {on : Option Nat} {v : V} (h : OPj D i te on) : StW XP D (tDrop (tBM K "list" rAppend te (tCons (tC v) tNil))) ((W.get on).bind fun n => W.chk (n ≤ 1000000) (W.pure ())) fun _ => D.set i .any := fun B O0 O G H σ Ds fr s ⟨n, e, c, q⟩ =>
  h fr s n e fun l ws r O' hn f s2 => ⟨.inl ⟨rfl, ws, SqL.of (Sx.head s2).1⟩, l, ws, v, rfl, rfl, (Sx.head s2).1, line_lt (by rw [hn]; exact c), q σ _ G _ Ex.r f (junk_end s2)⟩
theorem all2_opt {α : Type} [Py α] {G : Hp} : ∀ {vs : List V} {xs : List α}, All2 G vs xs → All2 G vs (xs.map Option.some)
  | _, _, .nil => .nil
  | _, _, .cons r t => .cons r (all2_opt t)
theorem EW.optL {α : Type} [Py α] {m : W (List α)} (h : EW XP D te m) : EW (α := List (Option α)) XP D te (m.bind fun xs => W.pure (xs.map Option.some)) := fun B O0 O G H σ Q fr s z => h fr s (m.mono (fun xs k v G2 H2 e2 s2 ⟨a, vs, h1, h2, h3⟩ => k v G2 H2 e2 s2 ⟨a, vs, h1, h2, all2_opt h3⟩) (fun _ x => x) z)
theorem EWN.optL {α : Type} [Py α] {m : W (List α)} (h : EWN XP D te m) : EWN (α := Option α) XP D te (m.bind fun xs => W.pure (xs.map Option.some)) := fun B O0 O G H σ Q fr s z => h fr s (m.mono (fun xs k p ws G2 H2 e2 s2 r => k p ws G2 H2 e2 s2 (all2_opt r)) (fun _ x => x) z)
/-! ### ("told", rows), rows walked and their lists changed -/
def PO.told (c : Str) (t l : Addr) (ws : List V) : PO Unit where
  py := ⟨fun _ _ _ => True, fun _ _ => trivial⟩
  rp := fun G v _ o => v = .ref t ∧ G t = some (.tup [.str c, .ref l]) ∧ o = [(l, .lst ws)]
  up := fun e h => ⟨h.1, e t _ h.2.1, h.2.2⟩
  lists := fun h q hq => by rw [h.2.2] at hq; rw [List.mem_singleton.mp hq]; exact ⟨ws, rfl⟩
  frz := fun _ _ _ => trivial
theorem told_end {Z : Type} {q : PO Z} {c : Str} {t l : Addr} {ws : List V} {js : List Junk} (h : js.length = ws.length) : Wk1 (.ov (PO.told c t l ws) ()) (.ov (PO.sum (PO.pair (PO.st (α := Str)) (PO.list (PO.st (α := Junk)))) q) (.inl (c, js))) :=
  .le fun G v o ⟨h1, h2, h3⟩ => ⟨t, .str c, .ref l, [], [(l, .lst ws)], h1, h2, h3, ⟨rfl, rfl⟩, l, ws, [], rfl, rfl, PoL.of (junk_all h)⟩
theorem StW.forTold {κ Z : Type} {p : PO κ} {q : PO Z} {i : Nat} {x : (Str × List κ) ⊕ Z} {Dh : Str → Addr → Addr → List V → S → List Sl} {D' : S → List Sl} {f : Str → Addr → Addr → List V → S → κ → List Sl} {b : κ → S → W S} {s0 : S} {g : TG} {ts : TS} (hi : D[i]? = some (.ov (PO.sum (PO.pair (PO.st (α := Str)) (PO.list p)) q) x)) (w0 : ∀ c t l ws, Wk (D.set i (.ov (PO.told c t l ws) ())) (Dh c t l ws s0))
    (hj : ∀ c t l ws s, (Dh c t l ws s)[i]? = some (.ov (PO.told c t l ws) ())) (hg : ∀ c t l ws s, TgF g p (Dh c t l ws s) (f c t l ws s)) (hb : ∀ c t l ws s x, StW XP0 (f c t l ws s x) ts (b x s) (Dh c t l ws)) (w1 : ∀ c t l ws s xs, x = .inl (c, xs) → ws.length = xs.length → Wk (Dh c t l ws s) (D' s)) :
    StW XP0 D (tFor (iList K (tOp (rIx K) (tVar i) (tC (.int 1)))) g ts) ((W.get x.getLeft?).bind fun y => W.fold b y.2 s0) D' := fun B O0 O G H σ Ds fr sx ⟨y, ey, q0⟩ => by
  cases x with
  | inr z => cases ey
  | inl x =>
  obtain rfl : x = y := Option.some.inj ey
  obtain ⟨c, xs⟩ := x
  obtain ⟨O1, o, O2, u, e1, e2, ⟨t, y1, y2, oo1, oo2, t1, t2, t3, ⟨t4, t5⟩, ⟨l, ws, r, h1, h2, h3⟩⟩, z⟩ := fr.ovAt hi
  subst t4; subst t1; subst h1; subst h2; subst t3; subst e1
  obtain rfl : y1 = .str c := t5
  have hl : H l = some (.lst ws) := (sx.own (l, .lst ws) (by simp)).1
  have wl : ws.length = xs.length := h3.len
  have f0 := z G (.ov (PO.told c t l ws) ()) (some (.ref t)) [(l, .lst ws)] Ex.r ⟨.ref t, rfl, rfl, t2, rfl⟩
  rw [set_same e2] at f0
  have s0' : Sx B ((O1 ++ [(l, .lst ws)] ++ O2) ++ (r ++ O0)) G H := sx.perm (by
    simp only [List.append_assoc, List.cons_append, List.nil_append]
    refine List.Perm.append_left O1 (List.Perm.cons _ ?_)
    rw [← List.append_assoc]
    exact app_swap)
  obtain ⟨G0, O3, e3, f3, s3⟩ := (w0 c t l ws).go f0 s0'
  refine ⟨.ref t, e2, ixP (j := 1) sx t2 rfl ⟨l, rfl, ⟨ws, SqL.of hl⟩, ?_⟩⟩
  let Wv : Nat → L2.St → Hp → Prop := fun i σ H => i ≤ xs.length ∧ ∃ s G2 O4 r4, Ex G G2 ∧ Fr B G2 (Dh c t l ws s) σ O4 ∧ Sx B (O4 ++ (r4 ++ O0)) G2 H ∧ PoL p G2 (ws.drop i) (xs.drop i) r4 ∧ (W.fold b (xs.drop i) s).run (PW XP0 B O0 G D' Ds.nx) (PX XP0 B O0 G)
  refine ⟨fun i m σ H => m = xs.length - i ∧ Wv i σ H, ⟨xs.length, by simp, Nat.zero_le _, s0, G0, O3, r, e3, f3, s3, h3.up e3, q0⟩, ?_⟩
  rintro j m σ2 H2 ⟨rfl, hjl, s, G2, O4, r4, e4, f4, s4, p4, k2⟩
  have hl2 : H2 l = some (.lst ws) := by
    obtain ⟨P1, o', P2, u', g1, g2, ⟨g3, g4, g5⟩, _⟩ := f4.ovAt (hj c t l ws s)
    refine (s4.own (l, .lst ws) ?_).1
    rw [g1, g5]
    simp
  have sq : SqL K H2 l ws := SqL.of hl2
  by_cases hlt : j < xs.length
  · have hwl : j < ws.length := by omega
    have hx : ws[j]? = some ws[j] := List.getElem?_eq_getElem hwl
    refine .inr ⟨⟨ws, ws[j], sq, hx⟩, Wv (j + 1), fun σ' H' w' => ⟨xs.length - (j + 1), by omega, rfl, w'⟩, fun v H4 hv => ?_⟩
    obtain ⟨rfl, hv⟩ := hv
    have hv := hv ws sq
    rw [hx] at hv
    cases hv
    rw [List.drop_eq_getElem_cons hlt, List.drop_eq_getElem_cons hwl] at p4
    obtain ⟨o1, o2, ro, rp1, p5⟩ := p4.split
    subst ro
    rw [List.drop_eq_getElem_cons hlt] at k2
    refine hg c t l ws s (O0 := o2 ++ O0) f4 (s4.perm ?_) rp1 fun σ' O' f' s' => hb c t l ws s _ f' s' ((b xs[j] s).mono (fun s5 ks σ6 O6 G6 H6 e6 f6 s6 => ⟨hlt, s5, G6, O6, o2, Ex.t e4 e6, f6, s6, p5.up e6, ks⟩) px0_any k2)
    rw [List.append_assoc o1, ← List.append_assoc]
    exact app_swap
  · have ej : j = xs.length := by omega
    rw [ej, List.drop_length] at k2
    refine .inl ⟨⟨ws, sq, by omega⟩, ?_⟩
    obtain ⟨G5, O5, e5, f5, s5⟩ := (w1 c t l ws s xs rfl wl).go f4 s4
    exact k2 σ2 O5 G5 H2 (Ex.t e4 e5) f5 (s5.sub ((List.Sublist.refl O5).append (List.sublist_append_right _ _)))
theorem w_inII (x : Int) (y : Int × Int) : Op2W (rInAny K) x y (W.pure (decide (x = y.1) || decide (x = y.2))) := fun B O G H v w s hv hw Q E q => by
  obtain ⟨a, u1, u2, rfl, ha, r1, r2⟩ := hw
  obtain rfl : u1 = .int y.1 := r1
  obtain rfl : u2 = .int y.2 := r2
  obtain rfl : v = .int x := hv
  refine .inl ⟨a, [.int y.1, .int y.2], rfl, .inr (SqT.of (s.ex a _ ha)), rfl, rfl, q _ G H Ex.r s ?_⟩
  show V.bl _ = V.bl _
  congr 1
  unfold inV
  simp only [List.any_cons, List.any_nil, Bool.or_false]
  show ((y.1 == x) || (y.2 == x)) = _
  have e : ∀ z : Int, (z == x) = decide (x = z) := fun z => Bool.eq_iff_iff.mpr (by rw [beq_iff_eq, decide_eq_true_eq]; exact eq_comm)
  rw [e, e]
theorem w_notInN (x : Option Str) (y : Option Str × Str) : Op2W (rNotInAny K) x y (W.chk (y.1 = none) (W.pure (!(decide (x = none) || decide (x = some y.2))))) := .chk fun c => by
  obtain ⟨y1, y2⟩ := y
  have c : y1 = none := c
  subst c
  exact .of o2_notInPair
end
/-! ### sorted of owned lists -/
section
open PySem.W (Datum DatumOrd)
variable {α : Type} {XP : XPost} {D : List Sl} {te : TE} {K : PySem.W.Frag}
theorem PoL.perm {p : PO α} {G : Hp} {ps qs : List (V × α)} (pm : qs.Perm ps) : ∀ {r : Ow}, PoL p G (ps.map (·.1)) (ps.map (·.2)) r → ∃ r', PoL p G (qs.map (·.1)) (qs.map (·.2)) r' ∧ r'.Perm r := by
  induction pm with
  | nil => exact fun {r} h => ⟨r, h, .refl _⟩
  | @cons x l1 l2 _ ih =>
    intro r h
    rw [List.map_cons, List.map_cons] at h
    obtain ⟨o, r0, e, h1, h2⟩ := h.split
    subst e
    obtain ⟨r', g1, g2⟩ := ih h2
    exact ⟨o ++ r', .cons h1 g1, g2.append_left o⟩
  | swap x y l =>
    intro r h
    rw [List.map_cons, List.map_cons, List.map_cons, List.map_cons] at h
    obtain ⟨o, r0, e, h1, h2⟩ := h.split
    subst e
    obtain ⟨o2, r1, e2, h3, h4⟩ := h2.split
    subst e2
    exact ⟨o2 ++ (o ++ r1), .cons h3 (.cons h1 h4), by rw [← List.append_assoc]; exact app_swap⟩
  | trans _ _ ih1 ih2 =>
    intro r h
    obtain ⟨r1, g1, g2⟩ := ih2 h
    obtain ⟨r2, g3, g4⟩ := ih1 g1
    exact ⟨r2, g3, g4.trans g2⟩
theorem zip_fstO {vs : List V} {xs : List α} (h : vs.length = xs.length) : (vs.zip xs).map (·.1) = vs ∧ (vs.zip xs).map (·.2) = xs := by
  induction vs generalizing xs with
  | nil => cases xs with | nil => exact ⟨rfl, rfl⟩ | cons _ _ => cases h
  | cons v vs ih =>
    cases xs with
    | nil => cases h
    | cons x xs =>
      obtain ⟨h1, h2⟩ := ih (xs := xs) (by simpa using h)
      exact ⟨by rw [List.zip_cons_cons, List.map_cons, h1], by rw [List.zip_cons_cons, List.map_cons, h2]⟩
variable [DecidableEq α] [PyD α] [DatumOrd α] [Od α]
theorem EWF.sortO {p : PO α} {m : W (List α)} (hp : p.py = PyD.toPy) (h : EWF XP (PO.list p) D te m) : EWF XP (PO.list p) D (tCB (rSrtO K α) (tCons te tNil)) (m.bind fun xs => W.chk (xs.length ≤ 1000000) (W.pick fun ys => ys.Perm xs ∧ ys.Pairwise fun p q => DatumOrd.lt q p = false)) := fun B O0 O G H σ Q fr s q =>
  h fr s (m.mono (fun xs ⟨c, k⟩ v o G2 H2 e2 s2 ⟨l, ws, r, h1, h2, h3⟩ => by
    subst h1; subst h2
    obtain ⟨f1, f2, f3⟩ := Sx.freezeL (o := (l, .lst ws) :: r) s2
    have al : @All2 α p.py (updL G2 ((l, .lst ws) :: r)) ws xs := h3.frz f2 fun q hq => f3 q (List.mem_cons_of_mem _ hq)
    rw [hp] at al
    have wl := h3.len
    obtain ⟨z1, z2⟩ := zip_fstO wl
    refine ⟨l, ws.zip xs, rfl, SqL.of (by rw [z1]; exact (Sx.head s2).1), ?_, ?_, fun out l2 pm pw hl => ?_⟩
    · rw [show (ws.zip xs).map (fun p => Datum.toD p.2) = ((ws.zip xs).map (·.2)).map Datum.toD from (List.map_map ..).symm, z1, z2]
      exact dp_toD f1.ex al
    · rw [← List.length_map (f := (·.2)), z2]; exact c
    · obtain ⟨r', g1, g2⟩ := PoL.perm (p := p) (G := G2) (ps := ws.zip xs) pm (r := r) (by rw [z1, z2]; exact h3)
      have s3 : Sx B (r ++ (O ++ O0)) G2 H2 := s2.sub ((List.Sublist.refl _).cons _)
      have s4 := (s3.mine (o := .lst (out.map (·.1))) hl).perm (O' := ((l2, HO.lst (out.map (·.1))) :: r') ++ (O ++ O0)) ((g2.symm.append_right _).cons _)
      refine k (out.map (·.2)) ⟨?_, List.pairwise_map.mpr pw⟩ (.ref l2) ((l2, .lst (out.map (·.1))) :: r') G2 _ e2 s4 ⟨l2, _, r', rfl, rfl, g1⟩
      have := pm.map (·.2)
      rw [z2] at this
      exact this) (fun _ x => x) q)
end
end Dk

set_option Elab.async false
set_option linter.all false
set_option maxRecDepth 100000
set_option maxHeartbeats 1000000
namespace Dk
open PySem PySem.Spec PyProof.Rows L2
open Evl (Ex)
open Py (rp)
open PyD (pic)
/-! ### a tuple of one -/
structure Tp1 (α : Type) where
  x1 : α
deriving DecidableEq
section
variable {α β γ δ : Type} [Py α] [Py β] [Py γ] [Py δ]
instance instPyTp1 : Py (Tp1 α) where
  rp := fun G v x => ∃ t y, v = .ref t ∧ G t = some (.tup [y]) ∧ rp G y x.x1
  up := fun e ⟨t, y, h1, h2, h3⟩ => ⟨t, y, h1, e t _ h2, Py.up e h3⟩
instance : NN (Tp1 α) := ⟨fun ⟨a, x, h, _⟩ e => by rw [h] at e; cases e⟩
instance [Firm α] : Firm (Tp1 α) := ⟨fun {G l vs v x} hl h => by
  obtain ⟨a, p, h1, h2, h3⟩ := h
  exact ⟨a, p, h1, not_lst hl h2, Firm.keep hl h3⟩⟩
end
section
variable {α β γ δ : Type} [DecidableEq α] [PyD α] [DecidableEq β] [PyD β] [DecidableEq γ] [PyD γ] [DecidableEq δ] [PyD δ]
instance : PyD (Tp1 α) where
  pic := fun p => .tuple [pic p.x1]
  ok := fun p => PyD.ok p.x1
  okr := fun p => PyD.okr p.x1
  size := fun p => PyD.size p.x1 + 1
  deep := PyD.deep α + 1
  dp := fun e ⟨a, x, h1, h2, h3⟩ => h1 ▸ .tup (SqT.of (e a _ h2)) (.cons (PyD.dp e h3) .nil)
  lay := fun h => by simp only [PyData.canLay0, PyData.canLayAll0, PyD.lay h]; rfl
  dep := fun p => by
    simp only [PyData.depth, PyData.depthAll]
    have := PyD.dep p.x1
    omega
  eqd := fun p q => by
    simp only [PyData.eqv, PyData.eqvAll, PyD.eqd, Bool.and_true]
    exact decide_eq_decide.mpr ⟨fun h => by cases p; cases q; cases h; rfl, fun h => congrArg _ h⟩
  sh := fun h => by
    obtain ⟨h1, h2, h3⟩ := PyD.sh h
    simp only [PyData.leavesShort, PyData.showable, PyData.hasDict, PyData.leavesShortAll, PyData.showableAll, PyData.hasDictAll, h1, h2, h3]
    exact ⟨rfl, rfl, rfl⟩
  bk := fun p => by
    simp only [PyData.bulk, PyData.bulkAll]
    have := PyD.bk p.x1
    omega
instance ap_1P : Apart (Tp1 α) (β × γ) := ⟨fun a b => by show PyData.eqv (.tuple [_]) (.tuple [_, _]) = false; simp only [PyData.eqv, PyData.eqvAll, Bool.and_false], fun a b => by show PyData.eqv (.tuple [_, _]) (.tuple [_]) = false; simp only [PyData.eqv, PyData.eqvAll, Bool.and_false]⟩
instance ap_P1 : Apart (β × γ) (Tp1 α) := ap_1P.symm
instance ap_1T : Apart (Tp1 α) (Tp3 β γ δ) := ⟨fun a b => by show PyData.eqv (.tuple [_]) (.tuple [_, _, _]) = false; simp only [PyData.eqv, PyData.eqvAll, Bool.and_false], fun a b => by show PyData.eqv (.tuple [_, _, _]) (.tuple [_]) = false; simp only [PyData.eqv, PyData.eqvAll, Bool.and_false]⟩
instance ap_T1 : Apart (Tp3 β γ δ) (Tp1 α) := ap_1T.symm
instance ap_1L : Apart (Tp1 α) (List β) := ⟨fun a b => by show PyData.eqv (.tuple _) (.list _) = false; simp only [PyData.eqv], fun a b => by show PyData.eqv (.list _) (.tuple _) = false; simp only [PyData.eqv]⟩
instance ap_L1 : Apart (List β) (Tp1 α) := ap_1L.symm
instance ap_11 [h : Apart α β] : Apart (Tp1 α) (Tp1 β) := ⟨fun a b => by show PyData.eqv (.tuple [_]) (.tuple [_]) = false; simp only [PyData.eqv, PyData.eqvAll, h.l, Bool.false_and], fun a b => by show PyData.eqv (.tuple [_]) (.tuple [_]) = false; simp only [PyData.eqv, PyData.eqvAll, h.r, Bool.false_and]⟩
end
section
variable {α β γ δ : Type} [Py α] [Py β] [Py γ] [Py δ] {XP : XPost} {D : List Sl} {te ta : TE} {B : Option Addr} {O O0 : Ow} {G H : Hp} {σ : L2.St} {K : PySem.W.Frag}
theorem EW.tup1 {l : W α} (h1 : EW XP D ta l) : EW XP D (tTup (tCons ta tNil)) (l.bind fun x => W.pure (Tp1.mk x)) := fun B O0 O G H σ Q fr s q =>
  h1 fr s (l.mono (fun x k v G2 H2 e2 s2 rv => ⟨line_le (by show 1 ≤ 1000000; decide), fun l hl => k (.ref l) _ _ (Ex.t e2 (s2.grow hl)) (s2.still hl) ⟨l, v, rfl, upd_same, Py.up (s2.grow hl) rv⟩⟩) (fun _ x => x) q)
theorem w_ix11 (p : Tp1 α) : Op2W (rIx K) p (0 : Int) (W.pure p.x1) := fun B O G H v w s hv hw Q E q => by
  obtain ⟨t, y, rfl, h2, h3⟩ := hv
  obtain rfl : w = .int 0 := hw
  exact ixT (i := 0) s h2 rfl h3 q
/-! ### x[:k], x a tuple or a list -/
def rCutA (K : PySem.W.Frag) : V → Option Int → Option Int → Hp → VK → Prop := fun x lo hi H Q => rSlL K x lo hi H Q ∨ rSlT K x lo hi H Q
theorem slAQ {X : Cx} (h : X.K = K) : SlR X (rCutA K) := h ▸ SlR.or sl_list sl_tup
def CutW (K : PySem.W.Frag) (k : Int) (x : α) (m : W β) : Prop := ∀ B O G H v, Sx B O G H → rp G v x → ∀ (Q : VK) (E : Exn → Prop), m.run (PV B O Q G) E → rCutA K v none (some k) H Q
theorem cw_list {k : Int} (xs : List α) : CutW K k xs (W.pure (cutL xs none (some k))) := fun B O G H v s r Q E q => by
  obtain ⟨a, vs, rfl, ha, ra⟩ := r
  refine .inl ⟨a, vs, rfl, SqL.of (s.ex a _ ha), fun l hl => q (.ref l) _ _ (s.grow hl) (s.still hl) ⟨l, _, rfl, upd_same, ?_⟩⟩
  unfold cutV cutL
  rw [all2_len ra]
  exact all2_take _ (all2_drop _ (all2_up (s.grow hl) ra))
theorem cw_21 (p : α × β) : CutW K 1 p (W.pure (Tp1.mk p.1)) := fun B O G H v s r Q E q => by
  obtain ⟨t, y, z, rfl, h2, h3, h4⟩ := r
  exact .inr ⟨t, [y, z], rfl, SqT.of (s.ex t _ h2), (by show ¬ (HT.sIx 2 0 none = 0 ∧ HT.sIx 2 2 (some 1) = 2); decide), fun l hl => q (.ref l) _ _ (s.grow hl) (s.still (o := .tup [y]) hl) ⟨l, y, rfl, upd_same, Py.up (s.grow hl) h3⟩⟩
theorem cw_42 (p : Tp4 α β γ δ) : CutW K 2 p (W.pure (p.x1, p.x2)) := fun B O G H v s r Q E q => by
  obtain ⟨t, y, z, u, w, rfl, h2, h3, h4, h5, h6⟩ := r
  exact .inr ⟨t, [y, z, u, w], rfl, SqT.of (s.ex t _ h2), (by show ¬ (HT.sIx 4 0 none = 0 ∧ HT.sIx 4 4 (some 2) = 4); decide), fun l hl => q (.ref l) _ _ (s.grow hl) (s.still (o := .tup [y, z]) hl) ⟨l, y, z, rfl, upd_same, Py.up (s.grow hl) h3, Py.up (s.grow hl) h4⟩⟩
theorem cw_32 (p : Tp3 α β γ) : CutW K 2 p (W.pure (p.x1, p.x2)) := fun B O G H v s r Q E q => by
  obtain ⟨t, y, z, u, rfl, h2, h3, h4, h5⟩ := r
  exact .inr ⟨t, [y, z, u], rfl, SqT.of (s.ex t _ h2), (by show ¬ (HT.sIx 3 0 none = 0 ∧ HT.sIx 3 3 (some 2) = 3); decide), fun l hl => q (.ref l) _ _ (s.grow hl) (s.still (o := .tup [y, z]) hl) ⟨l, y, z, rfl, upd_same, Py.up (s.grow hl) h3, Py.up (s.grow hl) h4⟩⟩
theorem cw_sum {α' β' : Type} [Py α'] [Py β'] {k : Int} {f : α → W α'} {g : β → W β'} (h1 : ∀ x, CutW K k x (f x)) (h2 : ∀ x, CutW K k x (g x)) (x : α ⊕ β) : CutW (β := α' ⊕ β') K k x (Sum.elim (fun a => (f a).bind fun z => W.pure (.inl z)) (fun b => (g b).bind fun z => W.pure (.inr z)) x) := by
  cases x with
  | inl a => exact fun B O G H v s r Q E q => h1 a B O G H v s r Q E q
  | inr b => exact fun B O G H v s r Q E q => h2 b B O G H v s r Q E q
theorem EW.cutA {k : Int} {m : W α} {f : α → W β} (h : EW XP D te m) (hf : ∀ x, CutW K k x (f x)) : EW XP D (tSl (rCutA K) te tNoPart (tPart (tC (.int k)))) (m.bind f) := fun B O0 O G H σ Q fr s q =>
  h fr s (m.mono (fun x k2 v G2 H2 e2 s2 rv => ⟨k, rfl, hf x B (O ++ O0) G2 H2 v s2 rv Q (PX XP B O0 G2) ((f x).mono (fun z k3 u G3 H3 e3 => k3 u G3 H3 (Ex.t e2 e3)) (PX.up e2) k2)⟩) (fun _ x => x) q)
end
end Dk

set_option Elab.async false
set_option linter.all false
set_option maxRecDepth 100000
set_option maxHeartbeats 1000000
namespace Dk
open PySem PySem.Spec PyProof.Rows L2
open Evl (Ex)
open Py (rp)
open PyD (pic)
/-! ### what kind a value is -/
def kinds : List String := ["int", "bool", "str", "list", "tuple", "dict", "NoneType"]
def isK (n T : String) : Bool := n == T || (n == "bool" && T == "int")
theorem kit_is {K : PySem.W.Frag} {n T : String} (h : n ∈ kinds) (h' : T ∈ kinds) : PySem.W.kitOne K (.type n) (.type T) = some (isK n T) := by
  simp only [kinds, List.mem_cons, List.not_mem_nil, or_false] at h h'
  rcases h with rfl | rfl | rfl | rfl | rfl | rfl | rfl <;> rcases h' with rfl | rfl | rfl | rfl | rfl | rfl | rfl <;> rfl
class Ty (α : Type) [Py α] where
  tn : α → String
  mem : ∀ a, tn a ∈ kinds
  ty : ∀ {K : PySem.W.Frag} {G H : Hp} {v : V} {a : α}, rp G v a → (∀ b o, G b = some o → H b = some o) → TyX K H v (.type (tn a))
section
variable {α β γ δ : Type} [Py α] [Py β] [Py γ] [Py δ]
instance : Ty Int := ⟨fun _ => "int", fun _ => by decide, fun r _ => by cases r; exact .base (.int _)⟩
instance : Ty Bool := ⟨fun _ => "bool", fun _ => by decide, fun r _ => by cases r; exact .base (.bl _)⟩
instance : Ty Str := ⟨fun _ => "str", fun _ => by decide, fun r _ => by cases r; exact .base (.str _)⟩
instance : Ty Unit := ⟨fun _ => "NoneType", fun _ => by decide, fun r _ => by cases r; exact .base .non⟩
instance : Ty (List α) := ⟨fun _ => "list", fun _ => by decide, fun ⟨a, vs, ev, ha, _⟩ h => by rw [ev]; exact .base (.lst (h a _ ha))⟩
instance : Ty (α × β) := ⟨fun _ => "tuple", fun _ => by decide, fun ⟨a, x, y, ev, ha, _⟩ h => by rw [ev]; exact .base (.tup (h a _ ha))⟩
instance : Ty (Tp1 α) := ⟨fun _ => "tuple", fun _ => by decide, fun ⟨a, x, ev, ha, _⟩ h => by rw [ev]; exact .base (.tup (h a _ ha))⟩
instance : Ty (Tp3 α β γ) := ⟨fun _ => "tuple", fun _ => by decide, fun ⟨a, x, y, z, ev, ha, _⟩ h => by rw [ev]; exact .base (.tup (h a _ ha))⟩
instance : Ty (Tp4 α β γ δ) := ⟨fun _ => "tuple", fun _ => by decide, fun ⟨a, x, y, z, u, ev, ha, _⟩ h => by rw [ev]; exact .base (.tup (h a _ ha))⟩
instance : Ty TuS := ⟨fun _ => "tuple", fun _ => by decide, fun ⟨a, ev, ha⟩ h => by rw [ev]; exact .base (.tup (h a _ ha))⟩
instance : Ty (Dct α) := ⟨fun _ => "dict", fun _ => by decide, fun ⟨a, kvs, ev, ha, _⟩ h => by rw [ev]; exact .base (.dK (h a _ ha))⟩
instance [i : Ty α] [j : Ty β] : Ty (α ⊕ β) := ⟨fun x => match x with | .inl a => i.tn a | .inr b => j.tn b, fun x => match x with | .inl a => i.mem a | .inr b => j.mem b, fun {K G H v x} r h => match x, r with | .inl _, r => i.ty r h | .inr _, r => j.ty r h⟩
end
/-- how many a tuple has -/
class Sz (α : Type) [Py α] where
  sz : α → Nat
  ln : ∀ {K : PySem.W.Frag} {G H : Hp} {v : V} {a : α}, rp G v a → (∀ b o, G b = some o → H b = some o) → LenV K v H (sz a)
/-- a tuple's items, of one kind -/
structure Its (τ α : Type) [Py τ] [Py α] (f : τ → List α) : Prop where
  at_ : ∀ {G : Hp} {v : V} {t : τ}, rp G v t → ∃ a vs, v = .ref a ∧ G a = some (.tup vs) ∧ All2 G vs (f t)
section
variable {α β γ δ : Type} [Py α] [Py β] [Py γ] [Py δ]
instance : Sz (α × β) := ⟨fun _ => 2, fun ⟨a, x, y, ev, ha, _⟩ h => by rw [ev]; exact .inr ⟨[x, y], SqT.of (h a _ ha), rfl⟩⟩
instance : Sz (Tp1 α) := ⟨fun _ => 1, fun ⟨a, x, ev, ha, _⟩ h => by rw [ev]; exact .inr ⟨[x], SqT.of (h a _ ha), rfl⟩⟩
instance : Sz (Tp3 α β γ) := ⟨fun _ => 3, fun ⟨a, x, y, z, ev, ha, _⟩ h => by rw [ev]; exact .inr ⟨[x, y, z], SqT.of (h a _ ha), rfl⟩⟩
instance : Sz (Tp4 α β γ δ) := ⟨fun _ => 4, fun ⟨a, x, y, z, u, ev, ha, _⟩ h => by rw [ev]; exact .inr ⟨[x, y, z, u], SqT.of (h a _ ha), rfl⟩⟩
instance : Sz TuS := ⟨fun x => x.items.length, fun ⟨a, ev, ha⟩ h => by rw [ev]; exact .inr ⟨_, SqT.of (h a _ ha), (List.length_map _).symm⟩⟩
instance : Sz (List α) := ⟨fun x => x.length, fun ⟨a, vs, ev, ha, ra⟩ h => by rw [ev]; exact .inl ⟨_, SqL.of (h a _ ha), (all2_len ra).symm⟩⟩
instance [i : Sz α] [j : Sz β] : Sz (α ⊕ β) := ⟨fun x => match x with | .inl a => i.sz a | .inr b => j.sz b, fun {K G H v x} r h => match x, r with | .inl _, r => i.ln r h | .inr _, r => j.ln r h⟩
theorem its_two : Its (α × α) α (fun p => [p.1, p.2]) := ⟨fun ⟨a, x, y, ev, ha, rx, ry⟩ => ⟨a, _, ev, ha, .cons rx (.cons ry .nil)⟩⟩
theorem its_three : Its (Tp3 α α α) α (fun p => [p.x1, p.x2, p.x3]) := ⟨fun ⟨a, x, y, z, ev, ha, rx, ry, rz⟩ => ⟨a, _, ev, ha, .cons rx (.cons ry (.cons rz .nil))⟩⟩
end
section
variable {α β γ τ : Type} [Py α] [Py β] [Py γ] [Py τ] {XP : XPost} {D : List Sl} {te ta tl : TE} {K : PySem.W.Frag}
theorem EW.isi [Ty α] {T : String} {m : W α} (hT : T ∈ kinds) (h : EW XP D te m) : EW XP D (tCB (rIsi K) (tCons te (tCons (tC (.ty T)) tNil))) (m.bind fun a => W.pure (isK (Ty.tn a) T)) := fun B O0 O G H σ Q fr s q =>
  h fr s (m.mono (fun a k v G2 H2 e s2 r => ⟨v, _, .type (Ty.tn a), .type T, isK (Ty.tn a) T, rfl, .ty _, Ty.ty r s2.ex, kit_is (Ty.mem a) hT, k _ G2 H2 e s2 rfl⟩) (fun _ x => x) q)
theorem EW.lenZ [Sz α] {m : W α} (h : EW XP D te m) : EW XP D (tCB (rLen K) (tCons te tNil)) (m.bind fun a => W.pure ((Sz.sz a : Nat) : Int)) := fun B O0 O G H σ Q fr s q =>
  h fr s (m.mono (fun a k v G2 H2 e s2 r => ⟨v, Sz.sz a, rfl, Sz.ln r s2.ex, k _ G2 H2 e s2 rfl⟩) (fun _ x => x) q)
theorem EWI.tup {f : τ → List α} {m : W τ} (hf : Its τ α f) (h : EW XP D tl m) : EWI XP D (iTup K tl) (m.bind fun t => W.pure (f t)) := fun B O0 O G H σ Q fr s q => h fr s (m.mono (fun t k v G2 H2 e s2 rt => by
  obtain ⟨a, vs, ev, ha, ra⟩ := hf.at_ rt
  exact ⟨a, ev, ⟨vs, SqT.of (s2.ex a _ ha)⟩, k _ G2 H2 e s2 fun i O3 G3 H3 e3 s3 => by
    have sq : SqT K H3 a vs := SqT.of (s3.ex a _ (e3 a _ ha))
    refine ⟨fun x hx => ?_, fun hi => ⟨vs, sq, by rw [hi, all2_len ra]; exact Nat.le_refl _⟩⟩
    obtain ⟨y, hy, ry⟩ := all2_get ra hx
    refine ⟨⟨vs, y, sq, hy⟩, fun v H4 ⟨eH, hv⟩ => ⟨G3, Ex.r, by rw [eH]; exact s3, ?_⟩⟩
    have := hv vs sq
    rw [hy] at this
    cases this
    exact Py.up e3 ry⟩) (fun _ x => x) q)
theorem EW.callU {A : Type} {t : TA} {ar : AR A} {ma : W A} {m : A → W Unit} {E : XK} (h : EWA XP0 D t ar ma) : EW XP0 D (tCall (SpU XE0 ar m) [] E t) (ma.bind m) := fun B O0 O G H σ Q fr s q =>
  h fr s (ma.mono (fun a k vs G2 H2 e s2 r => ⟨B, O ++ O0, G2, a, s2, by rw [List.append_nil]; exact r, (m a).mono (fun _ k2 G3 H3 e3 s3 => k2 .non G3 H3 (Ex.t e e3) s3 rfl) (fun x hx => (PX0 x hx).elim) k⟩) (fun _ x => x) q)
theorem EW.callQU {A : Type} {t : TA} {ar : AR A} {ma : W A} {m : A → W Unit} {E : XK} (h : EWA XP D t ar ma) : EW XP D (tCall (SpU XE0 ar m) [] E t) (ma.bind fun a => (m a).nox) := fun B O0 O G H σ Q fr s q =>
  h fr s (ma.mono (fun a k vs G2 H2 e s2 r => ⟨B, O ++ O0, G2, a, s2, by rw [List.append_nil]; exact r, (m a).mono (fun _ k2 G3 H3 e3 s3 => k2 .non G3 H3 (Ex.t e e3) s3 rfl) (fun x hx => hx.elim) k⟩) (fun _ x => x) q)
theorem pi_tupQ {X : Cx} {K : PySem.W.Frag} {tg l : Expr} {tl : TE} (h : X.K = K) (hl : PE X l tl) : PI X tg l (iTup K tl) := h ▸ pi_tup hl
/-! ### is True, is not True -/
theorem w_isB (x y : Bool) : Op2W rIsB x y (W.pure (decide (x = y))) := fun B O G H v w s hv hw Q E q => by
  cases hv; cases hw
  exact ⟨x, y, rfl, rfl, q _ G H Ex.r s rfl⟩
theorem w_notB (x y : Bool) : Op2W rNotB x y (W.pure (!decide (x = y))) := fun B O G H v w s hv hw Q E q => by
  cases hv; cases hw
  exact ⟨x, y, rfl, rfl, q _ G H Ex.r s rfl⟩
/-! ### in a list, or in a dict -/
def rDNotIn : R2 := fun y x H Q => ∃ a o, x = .ref a ∧ DGet H a y o ∧ Q (.bl (!o.isSome)) H
def rDIn : R2 := fun y x H Q => ∃ a o, x = .ref a ∧ DGet H a y o ∧ Q (.bl o.isSome) H
def rNotInU (K : PySem.W.Frag) : R2 := fun y x H Q => rNotInAny K y x H Q ∨ rDNotIn y x H Q
theorem notInUQ {X : Cx} {K : PySem.W.Frag} (h : X.K = K) (hu : X.A.units + 1 < cLine) : OpR X (compareOp .NotIn) (rNotInU K) := fun pins s σ H x y v u Q I rx ry r =>
  r.elim (notInQ h pins s σ H x y v u Q I rx ry) fun ⟨a, ov, ex, g, q⟩ => by
    subst ex
    obtain rfl : u = Value.ref a := ry
    exact d_notIn hu I g rx fun s3 I3 => ⟨.bl (!ov.isSome), H, I3, rfl, q⟩
def notInU {β : Type} (x : Str) (y : List Str ⊕ Dct β) : W Bool := match y with
  | .inl l => W.pure (!decide (x ∈ l))
  | .inr d => W.chk ((d.items.map (·.1)).Nodup) (W.pure (!decide (x ∈ d.items.map (·.1))))
theorem w_notInU (x : Str) (y : List Str ⊕ Dct β) : Op2W (rNotInU K) x y (notInU x y) := fun B O G H v w s hv hw Q E q => by
  cases y with
  | inl l => exact .inl (w_notInL x l B O G H v w s hv hw Q E q)
  | inr d => exact .inr (ev_dnotinB (σ := []) (cstD hv) (cstD (show rp G w d from hw)) q.1 G H Ex.r s Q fun u c G2 H2 p e s2 ru => by subst p; exact q.2 u G2 H2 e s2 ru)
end
section
variable {κ α β : Type} [DecidableEq κ] [Py κ] [DKey κ] [Py α] [Py β] {XP : XPost} {D : List Sl} {ta tb : TE} {K : PySem.W.Frag}
/-- x, d = e, {..} -/
theorem StW.parC {i j : Nat} {s t : Sl} {m : W α} {n : W (List (κ × β))} (h : EW XP D ta m) (h' : EWC XP D tb n) (hi : D[i]? = some s) (hj : ∀ a : α, (D.set i (stv a))[j]? = some t) : StW XP D (tPar i j (tCons ta (tCons tb tNil))) (m.bind fun a => n.bind fun b => W.pure (a, b)) fun p => (D.set i (stv p.1)).set j (owc p.2) := fun B O0 O G H σ Ds fr sx q =>
  h fr sx (m.mono (fun a k v G2 H2 e s2 r => h' (fr.up e) s2 (n.mono (fun b k2 p kvs G3 H3 e3 s3 r3 => by
    obtain ⟨O1, f1, sb1⟩ := (fr.up (Ex.t e e3)).put hi (Py.up e3 r)
    obtain ⟨P1, o, P2, u, e1, e2, e4, z⟩ := f1.focus (hj a)
    have f := z G3 (owc b) (some (.ref p)) [(p, DKey.obj kvs)] Ex.r ⟨p, kvs, rfl, rfl, r3⟩
    refine ⟨v, .ref p, rfl, k2 _ _ G3 H3 (Ex.t e e3) f ((s3.sub ?_).perm mid_new)⟩
    refine List.Sublist.cons₂ _ (List.Sublist.trans ?_ (sb1.append (.refl _)))
    rw [e1]
    have := @mid_out O0 o P1 P2
    simpa only [List.append_nil] using this) (PX.up e) k)) (fun _ x => x) q)
end
section
variable {α β : Type} {p : PO α} {q : PO β} {XP : XPost} {D : List Sl} {te : TE}
/-- return e, x: a new one, and one's own -/
theorem Rt.pairFO {j : Nat} {b : β} {m : W α} (h : D[j]? = some (.ov q b)) (h' : EWF XP p D te m) : Rt XP (rmF (PO.pair p q)) D (tRet (tTup (tCons te (tCons (tVar j) tNil)))) (m.bind fun a => W.pure (a, b)) := fun B O0 O G H σ Ds fr s k0 => by
  obtain ⟨O1, oj, O2, u, e1, e2, r, _⟩ := fr.ovAt h
  refine h' fr s (m.mono (fun a k v o G2 H2 e s2 ra => ⟨u, e2, line_le (by show 2 ≤ 1000000; decide), fun l hl => k G2 e (.ref l) (o ++ oj) _ _ (s2.grow hl) ((s2.still hl).sub ?_) ⟨l, v, u, o, oj, rfl, upd_same, rfl, p.up (s2.grow hl) ra, q.up (Ex.t e (s2.grow hl)) r⟩⟩) (fun _ x => x) k0)
  rw [e1, List.append_assoc]
  exact (List.Sublist.refl o).append (List.Sublist.append ((List.sublist_append_right O1 oj).trans (List.sublist_append_left _ _)) (.refl _))
/-- return x, e: one's own, and a new one -/
theorem Rt.pairOF {i : Nat} {a : α} {m : W β} (h : D[i]? = some (.ov p a)) (h' : EWF XP q D te m) : Rt XP (rmF (PO.pair p q)) D (tRet (tTup (tCons (tVar i) (tCons te tNil)))) (m.bind fun b => W.pure (a, b)) := fun B O0 O G H σ Ds fr s k0 => by
  obtain ⟨O1, oi, O2, u, e1, e2, r, _⟩ := fr.ovAt h
  refine ⟨u, e2, h' fr s (m.mono (fun b k v o G2 H2 e s2 rb => ⟨line_le (by show 2 ≤ 1000000; decide), fun l hl => k G2 e (.ref l) (oi ++ o) _ _ (s2.grow hl) (((s2.still hl).sub ((List.Sublist.refl o).append (?_ : (oi ++ O0).Sublist (O ++ O0)))).perm ?_) ⟨l, u, v, oi, o, rfl, upd_same, rfl, p.up (Ex.t e (s2.grow hl)) r, q.up (s2.grow hl) rb⟩⟩) (fun _ x => x) k0)⟩
  · rw [e1]
    exact List.Sublist.append ((List.sublist_append_right O1 oi).trans (List.sublist_append_left _ _)) (.refl _)
  · rw [List.append_assoc]
    exact List.perm_append_comm_assoc o oi O0
end
section
variable {α γ : Type} [Py α] [Py γ] {XP : XPost} {D : List Sl} {te : TE}
theorem EW.ofF {m : W γ} (h : EWF XP (PO.st (α := γ)) D te m) : EW XP D te m := fun B O0 O G H σ Q fr s q => h fr s (m.mono (fun a k v o G2 H2 e s2 ⟨r1, r2⟩ => k v G2 H2 e (by subst r1; exact s2) r2) (fun _ x => x) q)
theorem EW.lend0 [Firm γ] {i : Nat} {xs : List α} {m : W γ} (hi : D[i]? = some (own xs)) (h : EW XP0 (unbag (D.set i (stv xs))) te m) : EW XP0 D te m := EW.ofF (EWF.lend0 hi (EWF.ofS h))
theorem EW.lendF0 {α : Type} {p : PO α} [Firm γ] {i : Nat} {x : α} {m : W γ} (hi : D[i]? = some (.ov p x)) (h : EW XP0 (unbag (D.set i (.st p.py x))) te m) : EW XP0 D te m := EW.ofF (EWF.lendF0 hi (EWF.ofS h))
end
end Dk

set_option Elab.async false
set_option linter.all false
set_option maxRecDepth 100000
set_option maxHeartbeats 2000000
namespace Dk
open PySem PySem.Spec PyProof.Rows L2
open Evl (Ex)
open Py (rp)
open PyD (pic)
section
variable {ι : Type} [Py ι] {D : List Sl} {wi : TI} {g : TG} {tt : TT} {te : TE} {XP : XPost}
theorem EW.scT {w : World} {ws : List Nat} {m : W (List ι)} {f : ι → List Sl} {mt : ι → W Bool} {me : ι → W Str} (hi : EWI XP0 D wi m) (hw : ∀ i ∈ ws, ∃ s, D[i]? = some s ∧ s.free = true) (hg : TgW g ws (forget D ws) f)
    (ht : ∀ x, EWT XP0 (f x) tt (mt x)) (he : ∀ x, EW XP0 (f x) te (me x)) : EW XP0 D (tScT w wi g tt te ws) (m.bind fun xs => W.chk (xs.length ≤ 4000) ((W.mapf mt me xs).bind fun ys => W.pure (TSet.mk (ddT ys) : TSet w))) := fun B O0 O G H σ Q fr s q =>
  hi fr s (m.mono (fun xs ⟨c, k⟩ J G1 H1 e1 s1 hJ Dl hD => by
    let Post : List Str → Prop := fun ys => ∀ v G2 H2, Ex G G2 → Sx B (O ++ O0) G2 H2 → rp G2 v (TSet.mk (ddT ys) : TSet w) → Q v H2
    let Wv : Nat → Hp → Prop := fun i H => i ≤ xs.length ∧ ∃ G2 ys, Ex G1 G2 ∧ Sx B ((Dl, SetTO w Dl (ddT ys)) :: (O ++ O0)) G2 H ∧ ys.length ≤ i ∧ (W.mapf mt me (xs.drop i)).run (fun zs => Post (ys ++ zs)) (PX XP0 B O0 G)
    refine ⟨fun i m H => m = xs.length - i ∧ Wv i H, ⟨xs.length, by simp, Nat.zero_le _, G1, [], Ex.r, s1.mine hD, Nat.le_refl _, k⟩, ?_⟩
    rintro i m H2 ⟨rfl, hi, G2, ys, e2, s2, hl, k2⟩
    have ok := hJ i _ G2 H2 e2 s2
    by_cases hlt : i < xs.length
    · have hx : xs[i]? = some xs[i] := List.getElem?_eq_getElem hlt
      refine .inr ⟨(ok.1 _ hx).1, Wv (i + 1), fun H' w' => ⟨xs.length - (i + 1), by omega, rfl, w'⟩, fun v H3 hv => ?_⟩
      obtain ⟨G3, e3, s3, rv⟩ := (ok.1 _ hx).2 v H3 hv
      rw [List.drop_eq_getElem_cons hlt] at k2
      have e03 : Ex G G3 := Ex.t e1 (Ex.t e2 e3)
      have s3' : Sx B (O ++ ((Dl, SetTO w Dl (ddT ys)) :: O0)) G3 H3 := s3.perm acc_in
      refine hg ((fr.up e03).forget hw) s3' rv fun σ' fr' hwp => ⟨by rw [hwp, wipe_idem], ?_⟩
      refine ht _ fr' s3' ((mt xs[i]).mono (fun b kb G4 H4 e4 s4 => ?_) px0_any k2)
      cases b with
      | false =>
        rw [if_neg Bool.false_ne_true]
        exact ⟨hlt, G4, ys, Ex.t e2 (Ex.t e3 e4), s4.perm acc_in.symm, by omega, kb⟩
      | true =>
        rw [if_pos rfl]
        refine he _ (fr'.up e4) s4 ((me xs[i]).mono (fun y ky v5 G5 H5 e5 s5 r5 => ?_) px0_any kb)
        have s6 := s5.perm acc_in.symm
        have hdl := ddT_len ys
        cases r5
        refine ⟨y, ddT ys, rfl, s6.head.1, by have : scanBound = 4096 := rfl; omega, hlt, G5, ys ++ [y], Ex.t e2 (Ex.t e3 (Ex.t e4 e5)), ?_, by rw [List.length_append, List.length_singleton]; omega, ?_⟩
        · rw [ddT_snoc]
          exact s6.put
        · refine (W.mapf mt me (xs.drop (i + 1))).mono (fun zs hz => ?_) (fun _ x => x) ky
          show Post (ys ++ [y] ++ zs)
          rw [List.append_assoc]
          exact hz
    · have ei : i = xs.length := by omega
      refine .inl ⟨ok.2 ei, ?_⟩
      rw [ei, List.drop_length] at k2
      have k3 : Post (ys ++ []) := k2
      rw [List.append_nil] at k3
      obtain ⟨s4, e4⟩ := s2.freeze
      exact k3 (.ref Dl) _ H2 (Ex.t e1 (Ex.t e2 e4)) s4 ⟨Dl, rfl, upd_same⟩) (fun _ x => x) q)
theorem EWN.sortTS {w : World} {m : W (TSet w)} (h : EW XP D te m) : EWN XP D (tCB (rSortT w) (tCons te tNil)) (m.bind fun t => W.chk (t.items.length < 64) (W.pick fun ys => ys.Perm t.items ∧ sortedS ys = true)) := EWN.lift (C := fun t => tCB (rSortT w) (tCons t tNil)) h (fun _ _ _ _ => rfl) fun x v G B O σ r => .chk fun c => .ofP ((en_sortT (P := fun t : TSet w => t = x) (cstD r) fun t e => by rw [e]; exact c).imp fun ys ⟨t, e, pm, so⟩ => ⟨by rw [← e]; exact pm, so⟩)
/-- sorted({..}) -/
theorem EWN.sortSc {w : World} {ws : List Nat} {m : W (List ι)} {f : ι → List Sl} {mt : ι → W Bool} {me : ι → W Str} (hi : EWI XP0 D wi m) (hw : AllFree D ws) (hg : TgW g ws (forget D ws) f)
    (ht : ∀ x, EWT XP0 (f x) tt (mt x)) (he : ∀ x, EW XP0 (f x) te (me x)) : EWN XP0 D (tCB (rSortT w) (tCons (tScT w wi g tt te ws) tNil)) (m.bind fun xs => W.chk (xs.length ≤ 4000) ((W.mapf mt me xs).bind fun ys => W.chk ((ddT ys).length < 64) (W.pick fun zs => zs.Perm (ddT ys) ∧ sortedS zs = true))) :=
  EWN.sortTS (EW.scT hi hw.all hg ht he)
end
theorem passN {X : Cx} {σ : L2.St} : PassesAt CX0 X σ E0 := fun _ _ _ _ _ _ h => h.elim
section
variable {S R L : Type} {XP : XPost} {D : List Sl} {tt : TT} {ts tw tz t1 t2 : TS}
/-- an if whose branches go on with what follows -/
theorem StF.dup {M : RM R} {mc : W Bool} {m n : W (Fl S R L)} {Dn : S → List Sl} {Dl : L → List Sl} (hc : EWT XP D tt mc) (h1 : StF XP M D (tSeq ts tz) m Dn Dl) (h2 : StF XP M D (tSeq tw tz) n Dn Dl) : StF XP M D (tSeq (tIfS tt ts tw) tz) (mc.bind fun b => W.ite b m n) Dn Dl :=
  StF.ite hc h1 h2
theorem StF.assoc {M : RM R} {m : W (Fl S R L)} {Dn : S → List Sl} {Dl : L → List Sl} (h : StF XP M D (tSeq ts (tSeq tw tz)) m Dn Dl) : StF XP M D (tSeq (tSeq ts tw) tz) m Dn Dl := h
theorem StF.pastB {M : RM R} {m : W (Fl S R L)} {Dn : S → List Sl} {Dl : L → List Sl} (h : StF XP M D tBreak m Dn Dl) : StF XP M D (tSeq tBreak tz) m Dn Dl := h
theorem StF.pastC {M : RM R} {m : W (Fl S R L)} {Dn : S → List Sl} {Dl : L → List Sl} (h : StF XP M D tCont m Dn Dl) : StF XP M D (tSeq tCont tz) m Dn Dl := h
end
end Dk

set_option Elab.async false
set_option linter.all false
set_option maxRecDepth 100000
set_option maxHeartbeats 2000000
namespace Dk
open PySem PySem.Spec PyProof.Rows L2
open Evl (Ex)
open Py (rp)
open PyD (pic)
/-- {k: v for ..}: a later one takes the place of an earlier one -/
def putAll {κ β : Type} [DecidableEq κ] (ps : List (κ × β)) : List (κ × β) := ps.foldl (fun d p => putA d p.1 p.2) []
theorem putAll_snoc {κ β : Type} [DecidableEq κ] {ps : List (κ × β)} {p : κ × β} : putAll (ps ++ [p]) = putA (putAll ps) p.1 p.2 := by unfold putAll; rw [List.foldl_append]; rfl
theorem putA_len {κ β : Type} [DecidableEq κ] {ps : List (κ × β)} {k : κ} {b : β} : (putA ps k b).length ≤ ps.length + 1 := by
  unfold putA
  split
  · rw [List.length_map]; omega
  · rw [List.length_append, List.length_singleton]; omega
section
variable {ι β : Type} [Py ι] [Py β] {D : List Sl} {wi : TI} {g : TG} {tt : TT} {tk tv : TE}
theorem EW.dcS {ws : List Nat} {m : W (List ι)} {f : ι → List Sl} {mt : ι → W Bool} {mk : ι → W Str} {mv : ι → W β} (hi : EWI XP0 D wi m) (hw0 : AllFree D ws) (hg : TgW g ws (forget D ws) f)
    (ht : ∀ x, EWT XP0 (f x) tt (mt x)) (hk : ∀ x, EW XP0 (f x) tk (mk x)) (hv : ∀ x, EW XP0 (f x) tv (mv x)) :
    EW XP0 D (tDc wi g tt tk tv ws) (m.bind fun xs => W.chk (xs.length ≤ 1000000) ((W.mapf mt (fun x => (mk x).bind fun k => (mv x).bind fun b => W.pure (k, b)) xs).bind fun ys => W.pure (Dc.mk (putAll ys) : Dc Str β))) := fun B O0 O G H σ Q fr s q =>
  hi fr s (m.mono (fun xs ⟨c, k⟩ J G1 H1 e1 s1 hJ Dl hD => by
    have hw := hw0.all
    let me : ι → W (Str × β) := fun x => (mk x).bind fun k => (mv x).bind fun b => W.pure (k, b)
    let Post : List (Str × β) → Prop := fun ys => ∀ v G2 H2, Ex G G2 → Sx B (O ++ O0) G2 H2 → rp G2 v (Dc.mk (putAll ys) : Dc Str β) → Q v H2
    let Wv : Nat → Hp → Prop := fun i H => i ≤ xs.length ∧ ∃ (G2 : Hp) (kvs : List (Str × V)) (ys : List (Str × β)), Ex G1 G2 ∧ Sx B ((Dl, DKey.obj kvs) :: (O ++ O0)) G2 H ∧ Paired (KvA (κ := Str) inferInstance G2) kvs (putAll ys) ∧ (putAll ys).length ≤ i ∧ (W.mapf mt me (xs.drop i)).run (fun zs => Post (ys ++ zs)) (PX XP0 B O0 G)
    refine ⟨fun i m H => m = xs.length - i ∧ Wv i H, ⟨xs.length, by simp, Nat.zero_le _, G1, [], [], Ex.r, s1.mine hD, .nil, Nat.le_refl _, k⟩, ?_⟩
    rintro i m H2 ⟨rfl, hi, G2, kvs, ys, e2, s2, rp2, hl, k2⟩
    have ok := hJ i _ G2 H2 e2 s2
    by_cases hlt : i < xs.length
    · have hx : xs[i]? = some xs[i] := List.getElem?_eq_getElem hlt
      refine .inr ⟨(ok.1 _ hx).1, Wv (i + 1), fun H' w' => ⟨xs.length - (i + 1), by omega, rfl, w'⟩, fun v H3 hv3 => ?_⟩
      obtain ⟨G3, e3, s3, rv⟩ := (ok.1 _ hx).2 v H3 hv3
      rw [List.drop_eq_getElem_cons hlt] at k2
      have e03 : Ex G G3 := Ex.t e1 (Ex.t e2 e3)
      have s3' : Sx B (O ++ ((Dl, DKey.obj kvs) :: O0)) G3 H3 := s3.perm acc_in
      refine hg ((fr.up e03).forget hw) s3' rv fun σ' fr' hwp => ⟨by rw [hwp, wipe_idem], ?_⟩
      refine ht _ fr' s3' ((mt xs[i]).mono (fun b kb G4 H4 e4 s4 => ?_) px0_any k2)
      have up : ∀ {G5 : Hp}, Ex G2 G5 → Paired (KvA (κ := Str) inferInstance G5) kvs (putAll ys) := fun e => Paired.mapP rp2 fun _ _ ⟨x, y⟩ => ⟨x, Py.up e y⟩
      cases b with
      | false =>
        rw [if_neg Bool.false_ne_true]
        exact ⟨hlt, G4, kvs, ys, Ex.t e2 (Ex.t e3 e4), s4.perm acc_in.symm, up (Ex.t e3 e4), by omega, kb⟩
      | true =>
        rw [if_pos rfl]
        refine hk _ (fr'.up e4) s4 ((mk xs[i]).mono (fun y ky v5 G5 H5 e5 s5 r5 => hv _ (fr'.up (Ex.t e4 e5)) s5 ((mv xs[i]).mono (fun z kz v6 G6 H6 e6 s6 r6 => ?_) px0_any ky)) px0_any kb)
        have s7 := s6.perm acc_in.symm
        have e26 : Ex G2 G6 := Ex.t e3 (Ex.t e4 (Ex.t e5 e6))
        have kl : kvs.length = (putAll ys).length := kv_len rp2
        cases r5
        refine ⟨kvs.map fun p => (Sum.inr p.1, p.2), .inr y, rfl, s7.head.1, line_lt (by rw [List.length_map, kl]; omega), hlt, G6, putK kvs y v6, ys ++ [(y, z)], Ex.t e2 e26, ?_, ?_, ?_, ?_⟩
        · rw [putK_emb (f := (Sum.inr : Str → Key)) (fun a b e => Sum.inr.inj e)]
          exact s7.put
        · rw [putAll_snoc]
          exact kv_put (up e26) r6
        · rw [putAll_snoc]
          have := putA_len (ps := putAll ys) (k := y) (b := z)
          show (putA (putAll ys) y z).length ≤ _
          omega
        · refine (W.mapf mt me (xs.drop (i + 1))).mono (fun zs hz => ?_) (fun _ x => x) kz
          show Post (ys ++ [(y, z)] ++ zs)
          rw [List.append_assoc]
          exact hz
    · have ei : i = xs.length := by omega
      refine .inl ⟨ok.2 ei, ?_⟩
      rw [ei, List.drop_length] at k2
      have k3 : Post (ys ++ []) := k2
      rw [List.append_nil] at k3
      obtain ⟨s4, e4⟩ := s2.freeze
      exact k3 (.ref Dl) _ H2 (Ex.t e1 (Ex.t e2 e4)) s4 ⟨Dl, kvs, rfl, upd_same, Paired.mapP rp2 fun _ _ ⟨x, y⟩ => ⟨x, Py.up e4 y⟩⟩) (fun _ x => x) q)
end
section
variable {α : Type} [Py α] {XP : XPost} {D : List Sl} {ta tb : TE} {K : PySem.W.Frag}
/-- x or y, lists -/
theorem EW.orL {m n : W (List α)} (h : EW XP D ta m) (h' : EW XP D tb n) : EW XP D (tOrT K ta tb) (m.bind fun xs => W.ite xs.isEmpty n (W.pure xs)) := fun B O0 O G H σ Q fr s q =>
  h fr s (m.mono (fun xs k v G2 H2 e2 s2 rv => by
    obtain ⟨a, vs, ev, ha, ra⟩ := id rv
    refine ⟨!vs.isEmpty, by rw [ev]; exact .inl ⟨vs, SqL.of (s2.ex a _ ha), rfl⟩, ?_⟩
    cases ra with
    | nil => exact h' (fr.up e2) s2 (n.mono (PV.up e2) (PX.up e2) k)
    | cons x t => exact k v G2 H2 e2 s2 rv) (fun _ x => x) q)
theorem EWN.orL {m n : W (List α)} (h : EWN XP D ta m) (h' : EWN XP D tb n) : EWN XP D (tOrT K ta tb) (m.bind fun xs => W.ite xs.isEmpty n (W.pure xs)) := fun B O0 O G H σ Q fr s q =>
  h fr s (m.mono (fun xs k p vs G2 H2 e2 s2 ra => by
    refine ⟨!vs.isEmpty, .inl ⟨vs, SqL.of s2.head.1, rfl⟩, ?_⟩
    cases ra with
    | nil => exact h' (fr.up e2) s2.drop (n.mono (fun ys k3 p3 ws G3 H3 e3 s3 r3 => k3 p3 ws G3 H3 (Ex.t e2 e3) s3 r3) (PX.up e2) k)
    | cons x t => exact k p _ G2 H2 e2 s2 (.cons x t)) (fun _ x => x) q)
end
section
variable {α γ : Type} [Py α] [Py γ] {XP : XPost} {D : List Sl} {te : TE}
theorem EWN.lendF {α : Type} {p : PO α} [Firm γ] {i : Nat} {x : α} {m : W (List γ)} (hi : D[i]? = some (.ov p x)) (h : ∀ XP, EWN XP (unbag (D.set i (.st p.py x))) te m) : EWN XP D te m := EWN.ofF (EWF.lendF hi fun XP => EWF.ofN (h XP))
theorem EWN.lendF0 {α : Type} {p : PO α} [Firm γ] {i : Nat} {x : α} {m : W (List γ)} (hi : D[i]? = some (.ov p x)) (h : EWN XP0 (unbag (D.set i (.st p.py x))) te m) : EWN XP0 D te m := EWN.ofF (EWF.lendF0 hi (EWF.ofN h))
end
section
variable {α γ : Type} [Py α] [Py γ] {D : List Sl} {te : TE}
theorem EWN.lend0 [Firm γ] {i : Nat} {xs : List α} {m : W (List γ)} (hi : D[i]? = some (own xs)) (h : EWN XP0 (unbag (D.set i (stv xs))) te m) : EWN XP0 D te m := EWN.ofF (EWF.lend0 hi (EWF.ofN h))
end
end Dk

set_option Elab.async false
set_option linter.all false
set_option maxRecDepth 100000
set_option maxHeartbeats 1000000
namespace Dk
open PySem PySem.Spec PyProof.Rows L2
open Evl (Ex)
open Py (rp)
open PyD (pic)
section
variable {α β γ κ R : Type} {XP : XPost} {D : List Sl} {te ta tb tc : TE} {tt : TT} {B : Option Addr} {O O0 : Ow} {G H : Hp} {σ : L2.St} {K : PySem.W.Frag}
/-! ### return a if t else b, each as a return of its own -/
theorem Rt.ifx {M : RM R} {mc : W Bool} {m n : W R} (hc : EWT XP D tt mc) (h1 : Rt XP M D (tRet ta) m) (h2 : Rt XP M D (tRet tb) n) : Rt XP M D (tRet (tIf tt ta tb)) (mc.bind fun b => W.ite b m n) := Rt.ite (ts := tRet ta) (tw := tRet tb) hc h1 h2
/-! ### what a slot takes, whatever it is -/
def EWS (XP : XPost) (s : α → Sl) (D : List Sl) (te : TE) (m : W α) : Prop :=
  ∀ ⦃B : Option Addr⦄ ⦃O0 O : Ow⦄ ⦃G H : Hp⦄ ⦃σ : L2.St⦄ ⦃Q : VK⦄, Fr B G D σ O → Sx B (O ++ O0) G H → m.run (fun a => ∀ v o G2 H2, Ex G G2 → Sx B (o ++ (O ++ O0)) G2 H2 → SlOk B G2 (s a) (some v) o → Q v H2) (PX XP B O0 G) → te σ H Q
theorem EWS.st [Py α] {m : W α} (h : EW XP D te m) : EWS XP stv D te m := fun B O0 O G H σ Q fr s q => h fr s (m.mono (fun a k v G2 H2 e s2 r => k v [] G2 H2 e s2 ⟨rfl, v, rfl, r⟩) (fun _ x => x) q)
theorem EWS.own [Py α] {m : W (List α)} (h : EWN XP D te m) : EWS XP own D te m := fun B O0 O G H σ Q fr s q => h fr s (m.mono (fun a k p ws G2 H2 e s2 r => k (.ref p) [(p, .lst ws)] G2 H2 e s2 ⟨p, ws, rfl, rfl, r⟩) (fun _ x => x) q)
theorem EWS.oc [Py β] [Py κ] [DecidableEq κ] [DKey κ] {m : W (List (κ × β))} (h : EWC XP D te m) : EWS XP owc D te m := fun B O0 O G H σ Q fr s q => h fr s (m.mono (fun a k p kvs G2 H2 e s2 r => k (.ref p) [(p, DKey.obj kvs)] G2 H2 e s2 ⟨p, kvs, rfl, rfl, r⟩) (fun _ x => x) q)
theorem EWS.ov {p : PO α} {m : W α} (h : EWF XP p D te m) : EWS XP (fun a => .ov p a) D te m := fun B O0 O G H σ Q fr s q => h fr s (m.mono (fun a k v o G2 H2 e s2 r => k v o G2 H2 e s2 ⟨v, rfl, r⟩) (fun _ x => x) q)
theorem StW.par3S {i j l : Nat} {s t u : Sl} {f : α → Sl} {g : β → Sl} {k : γ → Sl} {m : W α} {n : W β} {o : W γ} (h : EWS XP f D ta m) (h' : EWS XP g D tb n) (h'' : EWS XP k D tc o) (hX : XP = XP0) (hi : D[i]? = some s) (hj : ∀ a : α, (D.set i (f a))[j]? = some t) (hl : ∀ (a : α) (b : β), ((D.set i (f a)).set j (g b))[l]? = some u) :
    StW XP D (tPar3 i j l (tCons ta (tCons tb (tCons tc tNil)))) (m.bind fun a => n.bind fun b => o.bind fun c => W.pure (Tp3.mk a b c)) fun p => ((D.set i (f p.x1)).set j (g p.x2)).set l (k p.x3) := fun B O0 O G H σ Ds fr sx q => by
  subst hX
  refine h fr sx (m.mono (fun a z v o1 G2 H2 e s2 r => h' (fr.up e) (O0 := o1 ++ O0) (s2.perm acc_inL) (n.mono (fun b z2 w o2 G3 H3 e3 s3 r3 => h'' (fr.up (Ex.t e e3)) (O0 := o2 ++ (o1 ++ O0)) (s3.perm acc_inL) (o.mono (fun c z3 y o3 G4 H4 e4 s4 r4 => ?_) px0_any z2)) px0_any z)) (fun _ x => x) q)
  have p4 : Sx B (o1 ++ (O ++ (o3 ++ (o2 ++ O0)))) G4 H4 := s4.perm ((acc_inL.trans (.append_left O (.append_left o3 acc_inL))).trans ((List.Perm.append_left O acc_inL).trans acc_inL))
  obtain ⟨O1, f1, s5⟩ := (fr.up (Ex.t e (Ex.t e3 e4))).putD hi (r.up (Ex.t e3 e4)) p4
  obtain ⟨O2, f2, s6⟩ := f1.putD (hj a) (r3.up e4) (s5.perm ((List.Perm.append_left O1 acc_inL).trans acc_inL))
  obtain ⟨O3, f3, s7⟩ := f2.putD (hl a b) r4 (s6.perm acc_inL)
  exact ⟨v, w, y, rfl, z3 _ O3 G4 H4 (Ex.t e (Ex.t e3 e4)) f3 s7⟩
end
end Dk

set_option Elab.async false
set_option linter.all false
set_option maxRecDepth 100000
set_option maxHeartbeats 1000000
namespace Dk
open PySem PySem.Spec PyProof.Rows L2
open Evl (Ex)
open Py (rp)
open PyD (pic)
/-! ### values of any kind: None, truths, numbers, texts, lists and tuples of these, dicts of texts to what stands alone -/
inductive Atm : V → PyData → Prop
  | non : Atm .non .none
  | bl (b : Bool) : Atm (.bl b) (.bool b)
  | int (i : Int) : Atm (.int i) (.int i)
  | str (x : Str) : Atm (.str x) (.str x)
inductive AtmKv : List (Key × V) → List (PyData × PyData) → Prop
  | nil : AtmKv [] []
  | cons {s : Str} {v : V} {d : PyData} {kvs : List (Key × V)} {ps : List (PyData × PyData)} : Atm v d → AtmKv kvs ps → AtmKv ((Sum.inr s, v) :: kvs) ((.str s, d) :: ps)
mutual
inductive Dq (G : Hp) : V → PyData → Prop
  | non : Dq G .non .none
  | bl (b : Bool) : Dq G (.bl b) (.bool b)
  | int (i : Int) : Dq G (.int i) (.int i)
  | str (x : Str) : Dq G (.str x) (.str x)
  | lst {a : Addr} {xs : List V} {ds : List PyData} : G a = some (.lst xs) → DqAll G xs ds → Dq G (.ref a) (.list ds)
  | tup {a : Addr} {xs : List V} {ds : List PyData} : G a = some (.tup xs) → DqAll G xs ds → Dq G (.ref a) (.tuple ds)
  | dct {a : Addr} {kvs : List (Key × V)} {ps : List (PyData × PyData)} : G a = some (.dK kvs) → AtmKv kvs ps → Dq G (.ref a) (.dict ps)
inductive DqAll (G : Hp) : List V → List PyData → Prop
  | nil : DqAll G [] []
  | cons {v : V} {vs : List V} {d : PyData} {ds : List PyData} : Dq G v d → DqAll G vs ds → DqAll G (v :: vs) (d :: ds)
end
mutual
theorem Dq.up {G G' : Hp} (e : Ex G G') : ∀ {d : PyData} {v : V}, Dq G v d → Dq G' v d
  | .none, _, h => by cases h; exact .non
  | .bool _, _, h => by cases h; exact .bl _
  | .int _, _, h => by cases h; exact .int _
  | .str _, _, h => by cases h; exact .str _
  | .list _, _, h => by
    cases h with
    | lst h1 h2 => exact .lst (e _ _ h1) (DqAll.up e h2)
  | .tuple _, _, h => by
    cases h with
    | tup h1 h2 => exact .tup (e _ _ h1) (DqAll.up e h2)
  | .dict _, _, h => by
    cases h with
    | dct h1 h2 => exact .dct (e _ _ h1) h2
theorem DqAll.up {G G' : Hp} (e : Ex G G') : ∀ {ds : List PyData} {vs : List V}, DqAll G vs ds → DqAll G' vs ds
  | [], _, h => by cases h; exact .nil
  | _ :: _, _, h => by
    cases h with
    | cons h1 h2 => exact .cons (Dq.up e h1) (DqAll.up e h2)
end
instance : Py PyData := ⟨Dq, fun e h => Dq.up e h⟩
theorem DqAll.all2 {G : Hp} : ∀ {vs : List V} {ds : List PyData}, DqAll G vs ds → All2 G vs ds
  | _, [], h => by cases h; exact .nil
  | _, _ :: _, h => by
    cases h with
    | cons h1 h2 => exact .cons h1 (DqAll.all2 h2)
theorem DqAll.of {G : Hp} {α : Type} [Py α] {f : α → PyData} (k : ∀ {v : V} {a : α}, rp G v a → Dq G v (f a)) : ∀ {vs : List V} {xs : List α}, All2 G vs xs → DqAll G vs (xs.map f)
  | _, _, .nil => .nil
  | _, _, .cons r t => .cons (k r) (DqAll.of k t)
mutual
/-- without a dict it is plain data -/
theorem Dq.dp {K : PySem.W.Frag} {G H : Hp} (e : Ex G H) : ∀ {d : PyData} {v : V}, Dq G v d → d.hasDict = false → Dp K H v d
  | .none, _, h, _ => by cases h; exact .non
  | .bool _, _, h, _ => by cases h; exact .bl _
  | .int _, _, h, _ => by cases h; exact .int _
  | .str _, _, h, _ => by cases h; exact .str _
  | .list ds, _, h, n => by
    cases h with
    | lst h1 h2 => exact .lst (SqL.of (e _ _ h1)) (DqAll.dp e h2 (by simpa only [PyData.hasDict] using n))
  | .tuple ds, _, h, n => by
    cases h with
    | tup h1 h2 => exact .tup (SqT.of (e _ _ h1)) (DqAll.dp e h2 (by simpa only [PyData.hasDict] using n))
  | .dict _, _, h, n => by simp only [PyData.hasDict] at n; cases n
theorem DqAll.dp {K : PySem.W.Frag} {G H : Hp} (e : Ex G H) : ∀ {ds : List PyData} {vs : List V}, DqAll G vs ds → PyData.hasDictAll ds = false → DpAll K H vs ds
  | [], _, h, _ => by cases h; exact .nil
  | d :: ds, _, h, n => by
    simp only [PyData.hasDictAll, Bool.or_eq_false_iff] at n
    cases h with
    | cons h1 h2 => exact .cons (Dq.dp e h1 n.1) (DqAll.dp e h2 n.2)
end
/-! ### told by any heap -/
section
variable {X : Cx} {pins : List (Addr × Obj)} {σ : L2.St} {G H : Hp} {s : Shared}
theorem Atm.reads {v : V} {d : PyData} {u : Value} {h : Heap} (a : Atm v d) (r : RelV v u) : Reads h u d [] := by
  cases a with
  | non => cases r; exact .none
  | bl b => cases r; exact .bool b
  | int i => obtain ⟨t, rfl⟩ := r; exact .int i t
  | str x => obtain ⟨t, rfl⟩ := r; exact .str x t
theorem AtmKv.reads {P : Program} {w : World} {h : Heap} : ∀ {kvs : List (Key × V)} {ps : List (PyData × PyData)} {vs : List (Key × Value)} {es : List DictEntry}, AtmKv kvs ps → KV kvs vs → Pairs (mixKind P w) es vs → ReadsAll h (es.map (·.key)) (ps.map (·.1)) [] ∧ ReadsAll h (es.map (·.val)) (ps.map (·.2)) []
  | _, _, _, _, .nil, k, p => by
    cases k
    cases p
    exact ⟨.nil, .nil⟩
  | _, _, _, _, .cons a t, k, p => by
    cases k with
    | cons k1 k2 =>
      cases p with
      | cons p1 p2 p3 =>
        obtain ⟨h1, h2⟩ := AtmKv.reads (P := P) (w := w) t k2 p3
        obtain ⟨e1, e2⟩ := k1
        rw [← e1] at p1
        obtain ⟨tk, ev⟩ := Value.isStrOf_shape p1
        refine ⟨?_, ?_⟩
        · rw [List.map_cons, List.map_cons, ev]
          exact ReadsAll.cons (Reads.str _ tk) h1
        · rw [List.map_cons, List.map_cons, p2]
          exact ReadsAll.cons (a.reads e2) h2
theorem dct_reads {a : Addr} {kvs : List (Key × V)} {ps : List (PyData × PyData)} (I : Inv X pins σ H s) (h : H a = some (.dK kvs)) (k : AtmKv kvs ps) : a ≠ sysModules ∧ Reads s.heap (.ref a) (.dict ps) [a] := by
  obtain ⟨_, hm, vs, kv, o, es, ep, h1, h2, h3, h4, h5, h6⟩ := dk_of I.hok h
  obtain ⟨q1, q2⟩ := AtmKv.reads k kv h5
  exact ⟨beq_eq_false_iff_ne.mp hm, Reads.dict h1 h2.1 h3 (as := []) (bs := []) q1 q2⟩
mutual
theorem Dq.reads (I : Inv X pins σ H s) (e : Ex G H) : ∀ (d : PyData) (v : V) (u : Value), Dq G v d → RelV v u → ∃ as, Reads s.heap u d as
  | .none, _, _, h, r => by
    cases h
    cases r
    exact ⟨_, Reads.none⟩
  | .bool b, _, _, h, r => by
    cases h
    cases r
    exact ⟨_, Reads.bool b⟩
  | .int i, _, _, h, r => by
    cases h
    obtain ⟨t, rfl⟩ := r
    exact ⟨_, Reads.int i t⟩
  | .str x, _, _, h, r => by
    cases h
    obtain ⟨t, rfl⟩ := r
    exact ⟨_, Reads.str x t⟩
  | .list ds, _, _, h, r => by
    cases h with
    | lst hs ha =>
      cases r
      obtain ⟨its, rv, ⟨o, n, ho, hc, _, hd⟩, _⟩ := I.list (SqL.of (e _ _ hs))
      obtain ⟨as, hr⟩ := DqAll.reads I e ds _ its ha rv
      exact ⟨_, Reads.list ho hc hd hr⟩
  | .tuple ds, _, _, h, r => by
    cases h with
    | tup hs ha =>
      cases r
      obtain ⟨its, rv, ⟨o, ho, hc, n, hd⟩, _⟩ := I.tuple (SqT.of (e _ _ hs))
      obtain ⟨as, hr⟩ := DqAll.reads I e ds _ its ha rv
      exact ⟨_, Reads.tuple ho hc hd hr⟩
  | .dict _, _, _, h, r => by
    cases h with
    | dct hs hk =>
      cases r
      exact ⟨_, (dct_reads I (e _ _ hs) hk).2⟩
theorem DqAll.reads (I : Inv X pins σ H s) (e : Ex G H) : ∀ (ds : List PyData) (vs : List V) (us : List Value), DqAll G vs ds → Vals vs us → ∃ as, ReadsAll s.heap us ds as
  | [], _, _, h, r => by
    cases h
    cases r
    exact ⟨_, ReadsAll.nil⟩
  | d :: ds, _, _, h, r => by
    cases h with
    | cons h1 h2 =>
      cases r with
      | cons r1 r2 =>
        obtain ⟨as, q1⟩ := Dq.reads I e d _ _ h1 r1
        obtain ⟨bs, q2⟩ := DqAll.reads I e ds _ _ h2 r2
        exact ⟨_, ReadsAll.cons q1 q2⟩
end
end
/-! ### repr of any value -/
section
variable {X : Cx} {P : Program} {w : World} {pins : List (Addr × Obj)} {σ : L2.St} {G H : Hp} {s : Shared}
def KOf (P : Program) (w : World) (s : Shared) (d : PyData) (u : Value) : Prop := ∃ as bs, Reads s.heap u d as ∧ ReadAtMost s.heap d.depth bs ∧ ReprK P w bs s.heap d.depth u d.shown
def KOfAll (P : Program) (w : World) (s : Shared) (ds : List PyData) (us : List Value) : Prop := ∃ as bs, ReadsAll s.heap us ds as ∧ ReadAtMost s.heap (PyData.depthAll ds) bs ∧ ReprAllK P w bs s.heap (PyData.depthAll ds) us (PyData.shownAll ds)
theorem kof_flat {d : PyData} {u : Value} {as : List Addr} (r : Reads s.heap u d as) (hs : d.showable = true) (hn : d.hasDict = false) (hz : d.shown.length ≤ sizeLine) : KOf P w s d u := by
  obtain ⟨bs, h1, h2⟩ := ReprK.of_reads (prog := P) (w := w) r hs (fun h => (by rw [hn] at h; cases h)) hz
  exact ⟨as, bs, r, h1, h2⟩
mutual
theorem dq_kof (I : Inv X pins σ H s) (e : Ex G H) : ∀ (d : PyData) (v : V) (u : Value), Dq G v d → RelV v u → d.showable = true → d.shown.length ≤ sizeLine → KOf P w s d u
  | .none, v, u, h, r, hs, hz => by
    obtain ⟨as, q⟩ := Dq.reads I e _ v u h r
    exact kof_flat q hs (by simp only [PyData.hasDict]) hz
  | .bool _, v, u, h, r, hs, hz => by
    obtain ⟨as, q⟩ := Dq.reads I e _ v u h r
    exact kof_flat q hs (by simp only [PyData.hasDict]) hz
  | .int _, v, u, h, r, hs, hz => by
    obtain ⟨as, q⟩ := Dq.reads I e _ v u h r
    exact kof_flat q hs (by simp only [PyData.hasDict]) hz
  | .str _, v, u, h, r, hs, hz => by
    obtain ⟨as, q⟩ := Dq.reads I e _ v u h r
    exact kof_flat q hs (by simp only [PyData.hasDict]) hz
  | .list ds, _, _, h, r, hs, hz => by
    have hz2 : (listText (PyData.shownAll ds)).length ≤ sizeLine := by simpa only [PyData.shown] using hz
    have hs2 : PyData.showableAll ds = true := by simpa only [PyData.showable] using hs
    cases h with
    | lst hg ha =>
      cases r
      obtain ⟨its, rv, ⟨o, n, ho, hc, _, hd⟩, _⟩ := I.list (SqL.of (e _ _ hg))
      obtain ⟨as, bs, q1, q2, q3⟩ := dq_kofAll I e ds _ its ha rv hs2 fun t ht => Nat.le_trans (listText_mem_le ht) hz2
      have rd := Reads.list ho hc hd q1
      have far := not_mem_of_deeper rd (by simp only [PyData.depth]; omega) q2
      refine ⟨_, _ :: bs, rd, ReadAtMost.cons rd (by simp only [PyData.depth]; omega) q2, ?_⟩
      simp only [PyData.depth, PyData.shown]
      cases its with
      | nil =>
        cases q1
        simp only [PyData.shownAll, listText_nil]
        exact ReprK.listEmpty ho hc hd
      | cons y ys => exact ReprK.list ho hc hd far (by simpa using q3.length_eq) fun i y z => q3.item i y (by simpa using z)
  | .tuple ds, _, _, h, r, hs, hz => by
    have hz2 : (tupleText (PyData.shownAll ds)).length ≤ sizeLine := by simpa only [PyData.shown] using hz
    have hs2 : PyData.showableAll ds = true := by simpa only [PyData.showable] using hs
    cases h with
    | tup hg ha =>
      cases r
      obtain ⟨its, rv, ⟨o, ho, hc, n, hd⟩, _⟩ := I.tuple (SqT.of (e _ _ hg))
      obtain ⟨as, bs, q1, q2, q3⟩ := dq_kofAll I e ds _ its ha rv hs2 fun t ht => Nat.le_trans (tupleText_mem_le ht) hz2
      have rd := Reads.tuple ho hc hd q1
      have far := not_mem_of_deeper rd (by simp only [PyData.depth]; omega) q2
      refine ⟨_, _ :: bs, rd, ReadAtMost.cons rd (by simp only [PyData.depth]; omega) q2, ?_⟩
      simp only [PyData.depth, PyData.shown]
      exact ReprK.tuple ho hc hd far q3
  | .dict _, _, _, h, r, hs, hz => by
    cases h with
    | dct hg hk =>
      cases r
      obtain ⟨ne, rd⟩ := dct_reads I (e _ _ hg) hk
      obtain ⟨bs, h1, h2⟩ := ReprK.of_reads (prog := P) (w := w) rd hs (fun _ m => ne (List.mem_singleton.mp m).symm) hz
      exact ⟨_, bs, rd, h1, h2⟩
theorem dq_kofAll (I : Inv X pins σ H s) (e : Ex G H) : ∀ (ds : List PyData) (vs : List V) (us : List Value), DqAll G vs ds → Vals vs us → PyData.showableAll ds = true → (∀ t ∈ PyData.shownAll ds, t.length ≤ sizeLine) → KOfAll P w s ds us
  | [], _, _, h, r, _, _ => by
    cases h
    cases r
    exact ⟨_, [], .nil, (fun _ z => nomatch z), by simp only [PyData.shownAll]; exact .nil⟩
  | d :: ds, _, _, h, r, hs, hz => by
    simp only [PyData.showableAll, Bool.and_eq_true] at hs
    simp only [PyData.shownAll] at hz
    cases h with
    | cons h1 h2 =>
      cases r with
      | cons r1 r2 =>
        obtain ⟨as1, bs1, a1, a2, a3⟩ := dq_kof I e d _ _ h1 r1 hs.1 (hz _ (List.mem_cons_self ..))
        obtain ⟨as2, bs2, b1, b2, b3⟩ := dq_kofAll I e ds _ _ h2 r2 hs.2 fun t ht => hz t (List.mem_cons_of_mem _ ht)
        refine ⟨_, bs1 ++ bs2, .cons a1 b1, fun x hx => ?_, ?_⟩
        · simp only [PyData.depthAll]
          rcases List.mem_append.mp hx with hx | hx
          · obtain ⟨dd, aa, rr, hh⟩ := a2 x hx
            exact ⟨dd, aa, rr, Nat.le_trans hh (Nat.le_max_left _ _)⟩
          · obtain ⟨dd, aa, rr, hh⟩ := b2 x hx
            exact ⟨dd, aa, rr, Nat.le_trans hh (Nat.le_max_right _ _)⟩
        · simp only [PyData.depthAll, PyData.shownAll]
          exact .cons ((a3.more fun x hx => List.mem_append_left _ hx).level_le (Nat.le_max_left _ _)) (b3.more_le (fun x hx => List.mem_append_right _ hx) (Nat.le_max_right _ _))
end
theorem dq_shows {d : PyData} {v : V} {a : Addr} (I : Inv X pins σ H s) (e : Ex G H) (h : Dq G v d) (r : RelV v (.ref a)) (hs : d.showable = true) (hz : d.shown.length ≤ sizeLine) : ∃ T idr, ShowsBy P w s.heap a d T idr := by
  cases h with
  | non => cases r
  | bl _ => cases r
  | int _ => obtain ⟨_, r⟩ := r; cases r
  | str _ => obtain ⟨_, r⟩ := r; cases r
  | @lst _ _ ds hg ha =>
    have hz2 : (listText (PyData.shownAll ds)).length ≤ sizeLine := by simpa only [PyData.shown] using hz
    have hs2 : PyData.showableAll ds = true := by simpa only [PyData.showable] using hs
    cases r
    obtain ⟨its, rv, ⟨o, n, ho, hc, _, hd⟩, _⟩ := I.list (SqL.of (e _ _ hg))
    obtain ⟨as, bs, q1, q2, q3⟩ := dq_kofAll I e ds _ its ha rv hs2 fun t ht => Nat.le_trans (listText_mem_le ht) hz2
    have far := not_mem_of_deeper (Reads.list ho hc hd q1) (by simp only [PyData.depth]; omega) q2
    refine ⟨"list", "list.__repr__", F.slot_list_repr.toG, F.slot_list_str, F.slot_list_format, fun s' k => ⟨o, k _ _ ho, hc⟩, fun A E s' Q gd hu k hq => ?_⟩
    simp only [PyData.depth] at hu
    simp only [PyData.shown] at hq
    cases its with
    | nil =>
      cases q1
      simp only [PyData.shownAll, listText_nil] at hq
      exact call_list_repr_empty ⟨o, k _ _ ho, hc⟩ (k _ _ ho) hd (hq s'.heap _ _ fun _ _ z => z)
    | cons y ys => exact call_list_reprK ho hc hd far (by simpa using q3.length_eq) (fun i y z => q3.item i y (by simpa using z)) gd (fun b _ => Clear.nil b) hu k hq hz2
  | @tup _ _ ds hg ha =>
    have hz2 : (tupleText (PyData.shownAll ds)).length ≤ sizeLine := by simpa only [PyData.shown] using hz
    have hs2 : PyData.showableAll ds = true := by simpa only [PyData.showable] using hs
    cases r
    obtain ⟨its, rv, ⟨o, ho, hc, n, hd⟩, _⟩ := I.tuple (SqT.of (e _ _ hg))
    obtain ⟨as, bs, q1, q2, q3⟩ := dq_kofAll I e ds _ its ha rv hs2 fun t ht => Nat.le_trans (tupleText_mem_le ht) hz2
    have far := not_mem_of_deeper (Reads.tuple ho hc hd q1) (by simp only [PyData.depth]; omega) q2
    refine ⟨"tuple", "tuple.__repr__", F.slot_tuple_repr, F.slot_tuple_str, F.slot_tuple_format, fun s' k => ⟨o, k _ _ ho, hc⟩, fun A E s' Q gd hu k hq => ?_⟩
    simp only [PyData.depth] at hu
    simp only [PyData.shown] at hq
    exact call_tuple_reprK ho hc hd far q3 gd (fun b _ => Clear.nil b) hu k hq hz2
  | dct hg hk =>
    cases r
    obtain ⟨ne, rd⟩ := dct_reads I (e _ _ hg) hk
    exact showsBy_of_reads rd hs (fun _ m => ne (List.mem_singleton.mp m).symm) hz
end
def rReprA : List V → Hp → VK → Prop := fun xs H Q =>
  ∃ v d G, xs = [v] ∧ Ex G H ∧ Dq G v d ∧ d.showable = true ∧ d.depth ≤ 60 ∧ d.shown.length ≤ sizeLine ∧ Q (.str d.shown) H
theorem cr_reprA {X : Cx} (gd : X.A.guards = some []) (hu : X.A.units + 64 < cLine) : CallR X (.builtin "repr") rReprA := by
  intro pins s σ H xs us Q I r h
  obtain ⟨v, d, G, rfl, ex, hd, hs, hdep, hz, q⟩ := h
  obtain ⟨u, rfl, ru⟩ := vals1 r
  have hq : ∀ (h' : Heap) (t : Tok) (tk : Nat), (∀ b o, s.heap.get? b = some o → h'.get? b = some o) → EP X pins σ Q (.str d.shown t) { s with heap := h', toks := tk } := fun h' t tk k => ⟨.str _, H, I.kept k, ⟨_, rfl⟩, q⟩
  have big : ∀ a, u = .ref a → wpAny (model X.prog X.w) X.A (call (.builtin "repr") [u]) (EP X pins σ Q) X.xe s := fun a ea => by
    subst ea
    obtain ⟨T, idr, S⟩ := dq_shows (P := X.prog) (w := X.w) I ex hd ru hs hz
    exact call_repr_slot (by omega) (S.typeIs s fun _ _ z => z) S.slotRepr (S.call X.A.in1 _ s _ gd (by show X.A.units + 1 + d.depth < cLine; omega) (fun _ _ z => z) fun h' t tk k => ⟨_, _, rfl, hq h' t tk k⟩)
  cases hd with
  | non =>
    cases ru
    refine PySem.P.repr_of_none ⟨.str _, H, I.tok _, ⟨_, rfl⟩, ?_⟩
    simpa only [PyData.shown] using q
  | bl b =>
    cases ru
    refine PySem.P.repr_of_bool ⟨.str _, H, I.tok _, ⟨_, rfl⟩, ?_⟩
    simpa only [PyData.shown] using q
  | int i =>
    obtain ⟨t, rfl⟩ := ru
    refine PySem.P.repr_of_int (by simpa [PyData.showable] using hs) ⟨.str _, H, I.tok _, ⟨_, rfl⟩, ?_⟩
    simpa only [PyData.shown] using q
  | str x =>
    obtain ⟨t, rfl⟩ := ru
    refine PySem.P.repr_of_str ⟨.str _, H, I.tok _, ⟨_, rfl⟩, ?_⟩ (by simpa only [PyData.shown] using hz)
    simpa only [PyData.shown] using q
  | lst _ _ => exact big _ ru
  | tup _ _ => exact big _ ru
  | dct _ _ => exact big _ ru
/-! ### str of any value -/
def strT : PyData → Str
  | .str x => x
  | d => d.shown
def rStrA : List V → Hp → VK → Prop := fun xs H Q =>
  ∃ v d G, xs = [v] ∧ Ex G H ∧ Dq G v d ∧ d.showable = true ∧ d.depth ≤ 50 ∧ d.shown.length ≤ sizeLine ∧ Q (.str (strT d)) H
theorem cr_strA {X : Cx} (gd : X.A.guards = some []) (hu : X.A.units + 64 < cLine) : CallR X (.type "str") rStrA := by
  intro pins s σ H xs us Q I r h
  obtain ⟨v, d, G, rfl, ex, hd, hs, hdep, hz, q⟩ := h
  obtain ⟨u, rfl, ru⟩ := vals1 r
  have big : strT d = d.shown → ∀ a, u = .ref a → wpAny (model X.prog X.w) X.A (call (.type "str") [u]) (EP X pins σ Q) X.xe s := fun et a ea => by
    subst ea
    rw [et] at q
    have hq : ∀ (h' : Heap) (t : Tok) (tk : Nat), (∀ b o, s.heap.get? b = some o → h'.get? b = some o) → EP X pins σ Q (.str d.shown t) { s with heap := h', toks := tk } := fun h' t tk k => ⟨.str _, H, I.kept k, ⟨_, rfl⟩, q⟩
    exact callType_new F.called_str (by decide) (F.typeCall_str_1 _) (F.newCall_str_1 _) (fun obj => F.args_object_init_2 obj _) F.entry_str_new
      (meets_str_new (S := fun A' R s' => A'.guards = some [] ∧ A'.units + (d.depth + 2) < cLine ∧ (∀ b o, s.heap.get? b = some o → s'.heap.get? b = some o) ∧
          ∀ h' t tk, (∀ b o, s'.heap.get? b = some o → h'.get? b = some o) → R (.ok (.ret (.str d.shown t))) { s' with heap := h', toks := tk })
        fun P' w' A' R s' g => by
          obtain ⟨T, idr, S⟩ := dq_shows (P := P') (w := w') I ex hd ru hs hz
          obtain ⟨g1, g2, g3, g4⟩ := g
          exact wpAny_strOf_slot rfl (by show A'.units + 1 + 1 < cLine; omega) (S.typeIs s' g3) S.slotStr S.slotRepr (S.call A'.in1.in1 _ s' _ g1 (by show A'.units + 1 + 1 + d.depth < cLine; omega) g3 fun h' t tk k => ⟨_, _, rfl, g4 h' t tk k⟩))
      ⟨gd, by show X.A.units + 1 + (d.depth + 2) < cLine; omega, (fun _ _ z => z), fun h' t tk k => ⟨typeIs_str _ _ _, hq h' t tk k⟩⟩
  cases hd with
  | non =>
    cases ru
    exact PySem.P.str_of_none ⟨.str _, H, I.tok _, ⟨_, rfl⟩, by simpa only [strT, PyData.shown] using q⟩
  | bl b =>
    cases ru
    exact PySem.P.str_of_bool ⟨.str _, H, I.tok _, ⟨_, rfl⟩, by simpa only [strT, PyData.shown] using q⟩
  | int i =>
    obtain ⟨t, rfl⟩ := ru
    exact PySem.P.str_of_int (by simpa [PyData.showable] using hs) ⟨.str _, H, I.tok _, ⟨_, rfl⟩, by simpa only [strT, PyData.shown] using q⟩
  | str x =>
    obtain ⟨t, rfl⟩ := ru
    exact PySem.P.str_of_str ⟨.str _, H, I, ⟨_, rfl⟩, q⟩
  | lst _ _ => exact big rfl _ ru
  | tup _ _ => exact big rfl _ ru
  | dct _ _ => exact big rfl _ ru
/-! ### a list against the empty one -/
def rEqN (K : PySem.W.Frag) : R2 := fun x y H Q => ∃ a b xs, x = .ref a ∧ y = .ref b ∧ SqL K H a xs ∧ SqL K H b [] ∧ Q (.bl xs.isEmpty) H
theorem op_eqN {X : Cx} (hu : X.A.units + 64 < cLine) : OpR X (compareOp .Eq) (rEqN X.K) := by
  intro pins s σ H x y v u Q I rx ry h
  obtain ⟨a, b, xs, rfl, rfl, ha, hb, q⟩ := h
  cases rx
  cases ry
  obtain ⟨its, rv, hl, _⟩ := I.list ha
  obtain ⟨its2, rv2, hl2, _⟩ := I.list hb
  cases rv2
  cases rv with
  | nil =>
    obtain ⟨o, n, ho, hc, _, hd⟩ := hl
    obtain ⟨o2, n2, ho2, hc2, _, hd2⟩ := hl2
    exact SeqAt.compareEq_shaped (da := .list []) (db := .list []) (.list ho hc hd .nil) (.list ho2 hc2 hd2 .nil) rfl rfl hu ⟨.bl _, H, I, rfl, q⟩
  | cons r t =>
    obtain ⟨o, n, ho, hc, _, hd⟩ := hl
    obtain ⟨o2, n2, ho2, hc2, _, hd2⟩ := hl2
    exact SeqAt.eq_list_lengthsAt ⟨o, ho, hc, n, hd⟩ ⟨o2, ho2, hc2, n2, hd2⟩ rfl (by omega) ⟨.bl _, H, I, rfl, q⟩
def rNeN (K : PySem.W.Frag) : R2 := fun x y H Q => ∃ a b xs, x = .ref a ∧ y = .ref b ∧ SqL K H a xs ∧ SqL K H b [] ∧ Q (.bl (!xs.isEmpty)) H
theorem op_neN {X : Cx} (hu : X.A.units + 64 < cLine) : OpR X (compareOp .NotEq) (rNeN X.K) := by
  intro pins s σ H x y v u Q I rx ry h
  obtain ⟨a, b, xs, rfl, rfl, ha, hb, q⟩ := h
  cases rx
  cases ry
  obtain ⟨its, rv, hl, _⟩ := I.list ha
  obtain ⟨its2, rv2, hl2, _⟩ := I.list hb
  cases rv2
  obtain ⟨o, n, ho, hc, _, hd⟩ := hl
  obtain ⟨o2, n2, ho2, hc2, _, hd2⟩ := hl2
  cases rv with
  | nil => exact SeqAt.compareNe_shaped (da := .list []) (db := .list []) (.list ho hc hd .nil) (.list ho2 hc2 hd2 .nil) rfl rfl hu ⟨.bl _, H, I, rfl, q⟩
  | cons r t => exact SeqAt.RcNeAt.lists_lengths ⟨o, ho, hc, n, hd⟩ ⟨o2, ho2, hc2, n2, hd2⟩ rfl (by omega) _ _ _ _ ⟨.bl _, H, I, rfl, q⟩
theorem neNQ {X : Cx} {K : PySem.W.Frag} (h : X.K = K) (hu : X.A.units + 64 < cLine) : OpR X (compareOp .NotEq) (rNeN K) := h ▸ op_neN hu
theorem eqNQ {X : Cx} {K : PySem.W.Frag} (h : X.K = K) (hu : X.A.units + 64 < cLine) : OpR X (compareOp .Eq) (rEqN K) := h ▸ op_eqN hu
theorem reprAQ {X : Cx} (gd : X.A.guards = some []) (hu : X.A.units + 64 < cLine) : CallR X (.builtin "repr") rReprA := cr_reprA gd hu
/-! ### typed values as values of any kind -/
class PyQ (α : Type) [DecidableEq α] [PyD α] : Prop where
  dq : ∀ {G : Hp} {v : V} {a : α}, rp G v a → Dq G v (pic a)
section
variable {α β γ : Type} [DecidableEq α] [PyD α] [DecidableEq β] [PyD β] [DecidableEq γ] [PyD γ]
instance : PyQ Int := ⟨fun h => by cases h; exact .int _⟩
instance : PyQ Bool := ⟨fun h => by cases h; exact .bl _⟩
instance : PyQ Str := ⟨fun h => by cases h; exact .str _⟩
instance : PyQ Unit := ⟨fun h => by rw [show _ = V.non from h]; exact .non⟩
instance [PyQ α] : PyQ (List α) := ⟨fun ⟨a, vs, h1, h2, h3⟩ => h1 ▸ .lst h2 (DqAll.of (f := pic) PyQ.dq h3)⟩
instance [PyQ α] [PyQ β] : PyQ (α × β) := ⟨fun ⟨a, x, y, h1, h2, h3, h4⟩ => h1 ▸ .tup h2 (.cons (PyQ.dq h3) (.cons (PyQ.dq h4) .nil))⟩
instance [PyQ α] : PyQ (Tp1 α) := ⟨fun ⟨a, x, h1, h2, h3⟩ => h1 ▸ .tup h2 (.cons (PyQ.dq h3) .nil)⟩
instance [PyQ α] [PyQ β] [PyQ γ] : PyQ (Tp3 α β γ) := ⟨fun ⟨a, x, y, z, h1, h2, h3, h4, h5⟩ => h1 ▸ .tup h2 (.cons (PyQ.dq h3) (.cons (PyQ.dq h4) (.cons (PyQ.dq h5) .nil)))⟩
end
/-- .. also of parts of any kind -/
class PyA (α : Type) [Py α] where
  pa : α → PyData
  da : ∀ {G : Hp} {v : V} {a : α}, rp G v a → Dq G v (pa a)
section
variable {α β γ : Type} [Py α] [PyA α] [Py β] [PyA β] [Py γ] [PyA γ]
instance : PyA PyData := ⟨fun d => d, fun h => h⟩
instance : PyA Int := ⟨.int, fun h => by cases h; exact .int _⟩
instance : PyA Bool := ⟨.bool, fun h => by cases h; exact .bl _⟩
instance : PyA Str := ⟨.str, fun h => by cases h; exact .str _⟩
instance : PyA Unit := ⟨fun _ => .none, fun h => by rw [show _ = V.non from h]; exact .non⟩
instance : PyA (List α) := ⟨fun xs => .list (xs.map PyA.pa), fun ⟨a, vs, h1, h2, h3⟩ => h1 ▸ .lst h2 (DqAll.of (f := PyA.pa) PyA.da h3)⟩
instance : PyA (α × β) := ⟨fun p => .tuple [PyA.pa p.1, PyA.pa p.2], fun ⟨a, x, y, h1, h2, h3, h4⟩ => h1 ▸ .tup h2 (.cons (PyA.da h3) (.cons (PyA.da h4) .nil))⟩
instance : PyA (Tp1 α) := ⟨fun p => .tuple [PyA.pa p.x1], fun ⟨a, x, h1, h2, h3⟩ => h1 ▸ .tup h2 (.cons (PyA.da h3) .nil)⟩
instance : PyA (Tp3 α β γ) := ⟨fun p => .tuple [PyA.pa p.x1, PyA.pa p.x2, PyA.pa p.x3], fun ⟨a, x, y, z, h1, h2, h3, h4, h5⟩ => h1 ▸ .tup h2 (.cons (PyA.da h3) (.cons (PyA.da h4) (.cons (PyA.da h5) .nil)))⟩
end
theorem atmKv_of {G : Hp} : ∀ {kvs : List (Key × V)} {ps : List (Str × Int)}, AllK G kvs ps → AtmKv kvs (ps.map fun p => (PyData.str p.1, PyData.int p.2))
  | _, _, .nil => .nil
  | (k, v) :: kvs, p :: ps, .cons r t => by
    obtain ⟨r1, r2⟩ := r
    have r1 : k = Sum.inr p.1 := r1
    have r2 : v = .int p.2 := r2
    subst r1; subst r2
    exact .cons (.int _) (atmKv_of t)
instance : PyA (Dct Int) := ⟨fun d => .dict (d.items.map fun p => (.str p.1, .int p.2)), fun ⟨a, kvs, h1, h2, h3⟩ => h1 ▸ .dct h2 (atmKv_of h3)⟩
/-! ### what a value of any kind is -/
def tnA : PyData → String
  | .none => "NoneType"
  | .bool _ => "bool"
  | .int _ => "int"
  | .str _ => "str"
  | .list _ => "list"
  | .tuple _ => "tuple"
  | .dict _ => "dict"
instance : Ty PyData := ⟨tnA, fun d => by cases d <;> (show _ ∈ kinds; simp only [tnA]; decide), fun {K G H v d} r h => by
  cases r with
  | non => exact .base .non
  | bl b => exact .base (.bl b)
  | int i => exact .base (.int i)
  | str x => exact .base (.str x)
  | lst h1 h2 => exact .base (.lst (h _ _ h1))
  | tup h1 h2 => exact .base (.tup (h _ _ h1))
  | dct h1 _ => exact .base (.dK (h _ _ h1))⟩
def lstA : PyData → Option (List PyData)
  | .list xs => some xs
  | _ => none
def tupA : PyData → Option (Tu PyData)
  | .tuple xs => some ⟨xs⟩
  | _ => none
def strA : PyData → Option Str
  | .str x => some x
  | _ => none
def strsA : List PyData → Option (List Str)
  | [] => some []
  | d :: ds => (strA d).bind fun x => (strsA ds).map fun xs => x :: xs
instance {α : Type} [Py α] : Sz (Tu α) := ⟨fun x => x.items.length, fun ⟨a, vs, ev, ha, ra⟩ h => by rw [ev]; exact .inr ⟨vs, SqT.of (h a _ ha), (all2_len ra).symm⟩⟩
theorem its_tu {α : Type} [Py α] : Its (Tu α) α (fun t => t.items) := ⟨fun ⟨a, vs, ev, ha, ra⟩ => ⟨a, vs, ev, ha, ra⟩⟩
section
variable {α β γ S : Type} {XP : XPost} {D : List Sl} {te ta tb : TE} {K : PySem.W.Frag}
theorem EW.toA [DecidableEq α] [PyD α] [PyQ α] {m : W α} (h : EW XP D te m) : EW (α := PyData) XP D te (m.bind fun a => W.pure (pic a)) := fun B O0 O G H σ Q fr s q => h fr s (m.mono (fun a k v G2 H2 e s2 r => k v G2 H2 e s2 (PyQ.dq r)) (fun _ x => x) q)
theorem EW.toB [Py α] [PyA α] {m : W α} (h : EW XP D te m) : EW (α := PyData) XP D te (m.bind fun a => W.pure (PyA.pa a)) := fun B O0 O G H σ Q fr s q => h fr s (m.mono (fun a k v G2 H2 e s2 r => k v G2 H2 e s2 (PyA.da r)) (fun _ x => x) q)
theorem EW.toAL [DecidableEq α] [PyD α] [PyQ α] {m : W (List α)} (h : EW XP D te m) : EW (α := List PyData) XP D te (m.bind fun xs => W.pure (xs.map pic)) := fun B O0 O G H σ Q fr s q => h fr s (m.mono (fun xs k v G2 H2 e s2 ⟨a, vs, h1, h2, h3⟩ => k v G2 H2 e s2 ⟨a, vs, h1, h2, (DqAll.of (f := pic) PyQ.dq h3).all2⟩) (fun _ x => x) q)
theorem EWN.toAL [DecidableEq α] [PyD α] [PyQ α] {m : W (List α)} (h : EWN XP D te m) : EWN (α := PyData) XP D te (m.bind fun xs => W.pure (xs.map pic)) := fun B O0 O G H σ Q fr s q => h fr s (m.mono (fun xs k p ws G2 H2 e s2 r => k p ws G2 H2 e s2 (DqAll.of (f := pic) PyQ.dq r).all2) (fun _ x => x) q)
theorem EW.toALst {m : W (List PyData)} (h : EW XP D te m) : EW (α := PyData) XP D te (m.bind fun xs => W.pure (.list xs)) := fun B O0 O G H σ Q fr s q => h fr s (m.mono (fun xs k v G2 H2 e s2 ⟨a, vs, h1, h2, h3⟩ => k v G2 H2 e s2 (h1 ▸ .lst h2 (by
  have : DqAll G2 vs (xs.map fun x => x) := DqAll.of (fun r => r) h3
  rwa [List.map_id'] at this))) (fun _ x => x) q)
theorem EW.noneA {m : W Unit} (h : EW XP D te m) : EW (α := PyData) XP D te (m.bind fun _ => W.pure .none) := fun B O0 O G H σ Q fr s q => h fr s (m.mono (fun xs k v G2 H2 e s2 r => k v G2 H2 e s2 (by rw [show v = V.non from r]; exact .non)) (fun _ x => x) q)
/-- {} -/
theorem EW.dictA : EW (α := PyData) XP D tDNewK (W.pure (.dict [])) := fun B O0 O G H σ Q fr s q p hp => q _ _ _ (s.grow hp) (s.still hp) (.dct (by rw [upd_same]) .nil)
/-- () -/
theorem EW.tup0 : EW (α := PyData) XP D (tTup tNil) (W.pure (.tuple [])) := fun B O0 O G H σ Q fr s q => ⟨line_le (by show 0 ≤ 1000000; decide), fun t ht => q _ _ _ (s.grow ht) (s.still ht) (.tup (by rw [upd_same]) .nil)⟩
theorem EW.asL {m : W PyData} (h : EW XP D te m) : EW (α := List PyData) XP D te (m.bind fun d => W.get (lstA d)) := fun B O0 O G H σ Q fr s q => h fr s (m.mono (fun d ⟨xs, e0, k⟩ v G2 H2 e s2 r => by
  cases r with
  | lst h1 h2 =>
    cases e0
    exact k _ G2 H2 e s2 ⟨_, _, rfl, h1, h2.all2⟩
  | _ => cases e0) (fun _ x => x) q)
theorem EW.asT {m : W PyData} (h : EW XP D te m) : EW (α := Tu PyData) XP D te (m.bind fun d => W.get (tupA d)) := fun B O0 O G H σ Q fr s q => h fr s (m.mono (fun d ⟨xs, e0, k⟩ v G2 H2 e s2 r => by
  cases r with
  | tup h1 h2 =>
    cases e0
    exact k _ G2 H2 e s2 ⟨_, _, rfl, h1, h2.all2⟩
  | _ => cases e0) (fun _ x => x) q)
theorem EW.asS {m : W PyData} (h : EW XP D te m) : EW (α := Str) XP D te (m.bind fun d => W.get (strA d)) := fun B O0 O G H σ Q fr s q => h fr s (m.mono (fun d ⟨xs, e0, k⟩ v G2 H2 e s2 r => by
  cases r with
  | str x =>
    cases e0
    exact k _ G2 H2 e s2 rfl
  | _ => cases e0) (fun _ x => x) q)
theorem strsA_all2 {G : Hp} : ∀ {ds : List PyData} {vs : List V} {xs : List Str}, All2 G vs ds → strsA ds = some xs → All2 G vs xs
  | [], _, xs, h, e => by cases h; cases e; exact .nil
  | d :: ds, _, xs, h, e => by
    cases h with
    | cons r t =>
      unfold strsA at e
      cases e1 : strA d with
      | none => rw [e1] at e; cases e
      | some x =>
        cases e2 : strsA ds with
        | none => rw [e1, e2] at e; cases e
        | some ys =>
          rw [e1, e2] at e
          cases e
          refine .cons ?_ (strsA_all2 t e2)
          cases d with
          | str y =>
            cases e1
            have r : Dq G _ (.str x) := r
            cases r
            rfl
          | _ => cases e1
theorem EW.strs {m : W (List PyData)} (h : EW XP D te m) : EW (α := List Str) XP D te (m.bind fun ds => W.get (strsA ds)) := fun B O0 O G H σ Q fr s q => h fr s (m.mono (fun ds ⟨xs, e0, k⟩ v G2 H2 e s2 ⟨a, vs, h1, h2, h3⟩ => k v G2 H2 e s2 ⟨a, vs, h1, h2, strsA_all2 h3 e0⟩) (fun _ x => x) q)
/-- repr -/
theorem EW.reprA {m : W PyData} (h : EW XP D te m) : EW XP D (tCB rReprA (tCons te tNil)) (m.bind fun d => W.chk (d.showable = true ∧ d.depth ≤ 60 ∧ d.shown.length ≤ 1000000) (W.pure d.shown)) := fun B O0 O G H σ Q fr s q =>
  h fr s (m.mono (fun d ⟨⟨c2, c3, c4⟩, k⟩ v G2 H2 e s2 r => ⟨v, d, G2, rfl, s2.ex, r, c2, c3, line_le c4, k _ G2 H2 e s2 rfl⟩) (fun _ x => x) q)
theorem EW.strI {m : W Int} (h : EW XP D te m) : EW (α := Str) XP D (tCB (fun xs H Q => ∃ i, xs = [.int i] ∧ i.natAbs.log2 < 1920 ∧ Q (.str (toString i)) H) (tCons te tNil)) (m.bind fun i => W.chk (i.natAbs.log2 < 1920) (W.pure (toString i))) := fun B O0 O G H σ Q fr s q =>
  h fr s (m.mono (fun i ⟨c, k⟩ v G2 H2 e s2 r => by
    obtain rfl : v = .int i := r
    exact ⟨i, rfl, c, k _ G2 H2 e s2 rfl⟩) (fun _ x => x) q)
theorem EW.strX {m : W PyData} (h : EW XP D te m) : EW (α := Str) XP D (tCB rStrA (tCons te tNil)) (m.bind fun d => W.chk (d.showable = true ∧ d.depth ≤ 50 ∧ d.shown.length ≤ 1000000) (W.pure (strT d))) := fun B O0 O G H σ Q fr s q =>
  h fr s (m.mono (fun d ⟨⟨c2, c3, c4⟩, k⟩ v G2 H2 e s2 r => ⟨v, d, G2, rfl, s2.ex, r, c2, c3, line_le c4, k _ G2 H2 e s2 rfl⟩) (fun _ x => x) q)
/-- xs == [] -/
theorem EW.eqN [Py α] {m : W (List α)} {n : W (List β)} [Py β] (h : EW XP D ta m) (h' : EW XP D tb n) : EW XP D (tOp (rEqN K) ta tb) (m.bind fun a => n.bind fun b => W.chk (b = []) (W.pure a.isEmpty)) := EW.lift2 (C := fun t u => tOp (rEqN K) t u) (g := fun (a : List α) (b : List β) => W.chk (b = []) (W.pure a.isEmpty)) h h' (fun _ _ _ _ _ => rfl) fun a b v w G B O σ r r' => fun G1 H1 e s Q E ⟨c, q⟩ => by
  obtain ⟨p, vs, rfl, hp, ra⟩ := Py.up (Ex.t e s.ex) r
  obtain ⟨p2, ws, rfl, hp2, rb⟩ := Py.up (Ex.t e s.ex) r'
  subst c
  cases rb
  refine ⟨p, p2, vs, rfl, rfl, SqL.of hp, SqL.of hp2, q _ G1 H1 Ex.r s ?_⟩
  cases ra <;> rfl
theorem EW.neN [Py α] {m : W (List α)} {n : W (List β)} [Py β] (h : EW XP D ta m) (h' : EW XP D tb n) : EW XP D (tOp (rNeN K) ta tb) (m.bind fun a => n.bind fun b => W.chk (b = []) (W.pure (!a.isEmpty))) := EW.lift2 (C := fun t u => tOp (rNeN K) t u) (g := fun (a : List α) (b : List β) => W.chk (b = []) (W.pure (!a.isEmpty))) h h' (fun _ _ _ _ _ => rfl) fun a b v w G B O σ r r' => fun G1 H1 e s Q E ⟨c, q⟩ => by
  obtain ⟨p, vs, rfl, hp, ra⟩ := Py.up (Ex.t e s.ex) r
  obtain ⟨p2, ws, rfl, hp2, rb⟩ := Py.up (Ex.t e s.ex) r'
  subst c
  cases rb
  refine ⟨p, p2, vs, rfl, rfl, SqL.of hp, SqL.of hp2, q _ G1 H1 Ex.r s ?_⟩
  cases ra <;> rfl
/-- {c: i}, both written -/
theorem EW.dispCI {c : Str} {i : Int} : EW (α := PyData) XP D (tDisp [(tC (.str c), tC (.int i))]) (W.pure (.dict [(.str c, .int i)])) := fun B O0 O G H σ Q fr s q p hp => by
  refine ⟨upd_same, [(Sum.inr c, .int i)], rfl, by show 1 ≤ 15; decide, ?_⟩
  have s3 := ((s.mine (o := .dK []) hp).put (o' := .dK (mergeK [] [(Sum.inr c, V.int i)]))).freeze
  exact q _ _ _ s3.2 s3.1 (.dct (by rw [upd_same]; rfl) (.cons (.int i) .nil))
/-- a tuple of what a list has -/
theorem EW.tupA {m : W (List PyData)} (h : EW XP D te m) : EW (α := PyData) XP D (tCB (fun xs H Q => ∃ p ys, xs = [.ref p] ∧ ((SqL K H p ys ∧ ∀ l, H l = none → Q (.ref l) (upd H l (.tup ys))) ∨ (SqT K H p ys ∧ Q (.ref p) H))) (tCons te tNil)) (m.bind fun xs => W.pure (.tuple xs)) := EW.lift (C := fun t => tCB (fun xs H Q => ∃ p ys, xs = [.ref p] ∧ ((SqL K H p ys ∧ ∀ l, H l = none → Q (.ref l) (upd H l (.tup ys))) ∨ (SqT K H p ys ∧ Q (.ref p) H))) (tCons t tNil)) h (fun _ _ _ _ => rfl) fun x v G B O σ r => fun G1 H1 e s Q E q => by
  obtain ⟨a, vs, rfl, ha, ra⟩ := r
  have hd : DqAll G1 vs x := by
    have : DqAll G1 vs (x.map fun z => z) := DqAll.of (fun r => r) (all2_up e ra)
    rwa [List.map_id'] at this
  exact ⟨a, vs, rfl, .inl ⟨SqL.of (s.ex a _ (e a _ ha)), fun l hl => q _ _ _ (s.grow hl) (s.still hl) (.tup (by rw [upd_same]) (DqAll.up (s.grow hl) hd))⟩⟩
/-- one sign in a text -/
def inSg (x y : Str) : Bool := match x.cps.toList with
  | [c] => decide (c ∈ y.cps.toList)
  | _ => false
theorem EW.inSg {m n : W Str} (h : EW XP D ta m) (h' : EW XP D tb n) : EW XP D (tOp (rInAny K) ta tb) (m.bind fun x => n.bind fun y => W.chk (x.length = 1) (W.pure (inSg x y))) := EW.lift2 (C := fun t u => tOp (rInAny K) t u) (g := fun x y => W.chk (x.length = 1) (W.pure (Dk.inSg x y))) h h' (fun _ _ _ _ _ => rfl) fun x y v w G B O σ r r' => fun G1 H1 e s Q E ⟨c, q⟩ => by
  obtain rfl : v = .str x := r
  obtain rfl : w = .str y := r'
  obtain ⟨⟨l⟩⟩ := x
  match l, c with
  | [c], _ => exact .inr ⟨c, y, rfl, rfl, q _ G1 H1 Ex.r s rfl⟩
theorem EW.notInSg {m n : W Str} (h : EW XP D ta m) (h' : EW XP D tb n) : EW XP D (tOp (rNotInAny K) ta tb) (m.bind fun x => n.bind fun y => W.chk (x.length = 1) (W.pure (!Dk.inSg x y))) := EW.lift2 (C := fun t u => tOp (rNotInAny K) t u) (g := fun x y => W.chk (x.length = 1) (W.pure (!Dk.inSg x y))) h h' (fun _ _ _ _ _ => rfl) fun x y v w G B O σ r r' => fun G1 H1 e s Q E ⟨c, q⟩ => by
  obtain rfl : v = .str x := r
  obtain rfl : w = .str y := r'
  obtain ⟨⟨l⟩⟩ := x
  match l, c with
  | [c], _ => exact .inr ⟨c, y, rfl, rfl, q _ G1 H1 Ex.r s rfl⟩
theorem shaped_noDict {d : PyData} (h : SeqAt.shaped d = true) : d.hasDict = false := PyData.hasDict_of_canLay d (SeqAt.canLay_of_shaped h)
/-- == -/
theorem EW.eqA {m n : W PyData} (h : EW XP D ta m) (h' : EW XP D tb n) : EW XP D (tOp (rEqU K) ta tb) (m.bind fun a => n.bind fun b => W.chk (SeqAt.shaped a = true ∧ SeqAt.shaped b = true) (W.pure (PyData.eqv a b))) := EW.lift2 (C := fun t u => tOp (rEqU K) t u) (g := fun a b => W.chk (SeqAt.shaped a = true ∧ SeqAt.shaped b = true) (W.pure (PyData.eqv a b))) h h' (fun _ _ _ _ _ => rfl) fun a b v w G B O σ r r' => fun G1 H1 e s Q E ⟨⟨c1, c2⟩, q⟩ =>
  .inl ⟨a, b, Dq.dp (Ex.t e s.ex) r (shaped_noDict c1), Dq.dp (Ex.t e s.ex) r' (shaped_noDict c2), c1, c2, q _ G1 H1 Ex.r s rfl⟩
end
end Dk

set_option Elab.async false
set_option linter.all false
set_option maxRecDepth 100000
set_option maxHeartbeats 1000000
namespace Dk
open PySem PySem.Spec PyProof.Rows L2
open Builtin Builtin.Str
/-! ### enumerate(zip(xs, ys)): the zip's pair stays in the walk's own pair, so each turn lays a new one -/
section
variable {prog : Program} {w : World} {A : Around} {E : Value → Shared → Prop} {s : Shared}
theorem dead_load {a : Addr} {Q : Option Obj → Shared → Prop} (ho : s.heap.get? a = none) (h : Q none s) : wpAny (model prog w) A (loadIfAlive a) Q E s := by
  have h' : Q (s.heap.get? a) s := by rw [ho]; exact h
  exact fun _ _ _ => h'
/-- the two lists' iterators, in step -/
structure Two (h : Heap) (TI TO i1 i2 l1 l2 : Addr) (k : Nat) : Prop where
  ti : PySem.IsPair h TI (.ref i1) (.ref i2)
  to : ∃ a b, PySem.IsPair h TO a b
  p1 : h.IsListIter i1 l1 k
  p2 : h.IsListIter i2 l2 k
/-- a zip that has given its tuple away and doesn't find it alive gives it again -/
theorem zip_dead {z TI TO T i1 i2 l1 l2 : Addr} {f : Bool} {k : Nat} {xs ys : Array Value} {Q : Fin → Shared → Prop} (hh : A.handled = none) (D : ZipApart z TI TO i1 i2 l1 l2)
    (hz : IsZipHeld s.heap z TI TO T f) (hT : s.heap.get? T = none) (t : Two s.heap TI TO i1 i2 l1 l2 k) (hl1 : s.heap.IsList l1 xs) (hl2 : s.heap.IsList l2 ys)
    (hQ : ∀ x y, xs[k]? = some x → ys[k]? = some y → ∀ h', IsZipHeld h' z TI TO s.heap.objs.size false → Two h' TI TO i1 i2 l1 l2 (k + 1) → PySem.IsPair h' s.heap.objs.size x y → h'.objs.size = s.heap.objs.size + 1 →
      (∀ c o, c ≠ z → c ≠ TO → c ≠ i1 → c ≠ i2 → s.heap.get? c = some o → h'.get? c = some o) → Q (.done (.ret (.ref s.heap.objs.size))) { s with heap := h' })
    (hE : xs[k]? = none ∨ ys[k]? = none → ∀ h' e, (∀ c o, c ≠ z → c ≠ TO → c ≠ i1 → c ≠ i2 → s.heap.get? c = some o → h'.get? c = some o) → (∃ o, h'.get? e = some o ∧ o.cls = .type "StopIteration") → E (.ref e) { s with heap := h' }) :
    wpAny (model prog w) A (Builtin.«zip.__next__» ⟨[.ref z], []⟩) Q E s := by
  obtain ⟨hTI, ⟨a, b, hTO⟩, h1, h2⟩ := t
  show wpAny _ _ (field (.ref z) 2 >>= _) _ _ _
  refine wpAny_bind (wpAny_field hz rfl (x := .bool false) rfl ?_)
  show wpAny _ _ (field (.ref z) 3 >>= _) _ _ _
  refine wpAny_bind (wpAny_field hz rfl (x := .ref TI) rfl (wpAny_bind (wpAny_seqItems hTI rfl ?_)))
  show wpAny _ _ (Builtin.SmallTypes.ownedTupleIsFree (.ref z) >>= _) _ _ _
  have free : ∀ {R : Bool → Shared → Prop}, R true s → wpAny (model prog w) A (Builtin.SmallTypes.ownedTupleIsFree (.ref z)) R E s := fun {R} r => by
    unfold Builtin.SmallTypes.ownedTupleIsFree
    refine wpAny_bind (wpAny_field hz rfl (x := rawInt T) rfl ?_)
    show wpAny _ _ (loadIfAlive ((T : Int).toNat) >>= _) _ _ _
    rw [Int.toNat_natCast]
    exact wpAny_bind (dead_load hT (wpAny_pure r))
  refine wpAny_bind (free ?_)
  simp only [if_true]
  refine wpAny_bind (wpAny_rule (wpAny_bind (wpAny_field hz rfl (x := .ref TO) rfl (wpAny_bind (wpAny_setField_rec hz (by simp) fun g1 z1 s1 => wpAny_bind ?_)))))
  simp only [List.zipIdx_cons, List.zipIdx_nil, List.forIn_cons, List.forIn_nil]
  refine wpAny_bind (wpAny_bind (wpAny_onRaise ?_))
  show wpAny _ _ (Builtin.SmallTypes.nextOf (.ref i1) >>= _) _ _ _
  have q1 := h1.extBut s1.extBut D.i1z
  have m1 := hl1.extBut s1.extBut D.l1z
  cases hx : xs[k]? with
  | none =>
    refine wpAny_bind (wpAny_nextOf_list_end hh q1 m1 hx fun g2 e s2 he => ?_)
    obtain ⟨oe, hoe, hce⟩ := he
    have z2 := s2 _ _ D.i1z.symm z1
    have ne : e ≠ z := fun x => by subst x; rw [z2] at hoe; cases hoe; simp at hce
    exact wpAny_setField_rec z2 (by simp) fun g3 _ s3 => hE (.inl hx) g3 e (fun c o c1 _ c3 _ x => s3.extBut _ _ c1 (s2 _ _ c3 (s1.extBut _ _ c1 x))) ⟨oe, s3.extBut _ _ ne hoe, hce⟩
  | some x =>
    refine wpAny_bind (wpAny_nextOf_list_item q1 m1 hx fun g2 p2 s2 => wpAny_pure ?_)
    have t2 : PySem.IsPair g2 TO a b := s2.extBut _ _ D.TOi1 (s1.extBut _ _ D.TOz hTO)
    refine wpAny_bind (wpAny_seqItems t2 rfl (wpAny_bind (wpAny_updateSeq_pair t2 fun g3 t3 s3 => wpAny_bind (wpAny_letGo (wpAny_pure ?_)))))
    refine wpAny_bind (wpAny_bind (wpAny_onRaise ?_))
    show wpAny _ _ (Builtin.SmallTypes.nextOf (.ref i2) >>= _) _ _ _
    have q2 := ((h2.extBut s1.extBut D.i2z).extBut s2.extBut D.i12.symm).extBut s3.extBut D.TOi2.symm
    have m2 := ((hl2.extBut s1.extBut D.l2z).extBut s2.extBut D.l2i1).extBut s3.extBut D.l2TO
    have z3 := s3.extBut _ _ D.TOz.symm (s2.extBut _ _ D.i1z.symm z1)
    cases hy : ys[k]? with
    | none =>
      refine wpAny_bind (wpAny_nextOf_list_end hh q2 m2 hy fun g4 e s4 he => ?_)
      obtain ⟨oe, hoe, hce⟩ := he
      have z4 := s4 _ _ D.i2z.symm z3
      have ne : e ≠ z := fun x => by subst x; rw [z4] at hoe; cases hoe; simp at hce
      exact wpAny_setField_rec z4 (by simp) fun g5 _ s5 => hE (.inr hy) g5 e (fun c o c1 c2 c3 c4 x => s5.extBut _ _ c1 (s4 _ _ c4 (s3.extBut _ _ c2 (s2.extBut _ _ c3 (s1.extBut _ _ c1 x))))) ⟨oe, s5.extBut _ _ ne hoe, hce⟩
    | some y =>
      refine wpAny_bind (wpAny_nextOf_list_item q2 m2 hy fun g4 p4 s4 => wpAny_pure ?_)
      have t4 := s4.extBut _ _ D.TOi2 t3
      refine wpAny_bind (wpAny_seqItems t4 rfl (wpAny_bind (wpAny_updateSeq_pair t4 fun g5 t5 s5 => wpAny_bind (wpAny_letGo (wpAny_pure (wpAny_pure ?_))))))
      have t5 : PySem.IsPair g5 TO x y := t5
      refine wpAny_bind (wpAny_seqItems t5 rfl (wpAny_bind (wpAny_newTuple ?_)))
      have sz : g5.objs.size = s.heap.objs.size := by rw [s5.1, s4.1, s3.1, s2.1, s1.1]
      have z5 := s5.extBut _ _ D.TOz.symm (s4.extBut _ _ D.i2z.symm z3)
      have k5 : ∀ c o, c ≠ z → c ≠ TO → c ≠ i1 → c ≠ i2 → s.heap.get? c = some o → g5.get? c = some o := fun c o c1 c2 c3 c4 e => s5.extBut _ _ c2 (s4.extBut _ _ c4 (s3.extBut _ _ c2 (s2.extBut _ _ c3 (s1.extBut _ _ c1 e))))
      have r1 := ((p2.extBut s3.extBut D.TOi1.symm).extBut s4.extBut D.i12).extBut s5.extBut D.TOi1.symm
      have r2 := p4.extBut s5.extBut D.TOi2.symm
      have zl := Heap.lt_size z5
      show wpAny _ _ (Builtin.SmallTypes.ownedTupleHandOut (.ref z) (.ref g5.objs.size) >>= _) _ _ _
      refine wpAny_bind ?_
      unfold Builtin.SmallTypes.ownedTupleHandOut
      refine wpAny_bind (wpAny_setField_rec (Heap.get?_push_of_some _ z5) (by simp) fun g7 z7 s7 => wpAny_setField_rec z7 (by simp) fun g8 z8 s8 => ?_)
      have up : ∀ c o, c ≠ z → g5.get? c = some o → g8.get? c = some o := fun c o c1 e => s8.extBut _ _ c1 (s7.extBut _ _ c1 (Heap.get?_push_of_some _ e))
      have t8 : PySem.IsPair g8 g5.objs.size x y := s8.extBut _ _ (Nat.ne_of_gt zl) (s7.extBut _ _ (Nat.ne_of_gt zl) (Heap.get?_push_size _ rfl))
      have e8 : g8.objs.size = g5.objs.size + 1 := by rw [s8.1, s7.1, Heap.size_push]
      refine wpAny_pure ?_
      show Q (.done (.ret (.ref g5.objs.size))) _
      have z8 : IsZipHeld g8 z TI TO g5.objs.size false := z8
      rw [sz] at z8 t8 e8 ⊢
      exact hQ x y hx hy g8 z8 ⟨up _ _ D.TIz (s5.extBut _ _ D.TITO (s4.extBut _ _ D.TIi2 (s3.extBut _ _ D.TITO (s2.extBut _ _ D.TIi1 (s1.extBut _ _ D.TIz hTI))))), ⟨_, _, up _ _ D.TOz t5⟩, r1.at fun o e => up _ o D.i1z e, r2.at fun o e => up _ o D.i2z e⟩ t8 e8
        fun c o c1 c2 c3 c4 e => up c o c1 (k5 c o c1 c2 c3 c4 e)
/-- a zip between two turns: its tuple is its own, or given away -/
structure ZipSt (h : Heap) (z TI TO i1 i2 l1 l2 : Addr) (k : Nat) : Prop where
  two : Two h TI TO i1 i2 l1 l2 k
  zip : IsZip h z TI TO .none ∨ ∃ T f, IsZipHeld h z TI TO T f
theorem zip_next {z TI TO i1 i2 l1 l2 : Addr} {k : Nat} {xs ys : Array Value} {Q : Fin → Shared → Prop} (hh : A.handled = none) (D : ZipApart z TI TO i1 i2 l1 l2)
    (st : ZipSt s.heap z TI TO i1 i2 l1 l2 k) (hl1 : s.heap.IsList l1 xs) (hl2 : s.heap.IsList l2 ys)
    (hQ : ∀ x y, xs[k]? = some x → ys[k]? = some y → ∀ h', ZipSt h' z TI TO i1 i2 l1 l2 (k + 1) → PySem.IsPair h' s.heap.objs.size x y → h'.objs.size = s.heap.objs.size + 1 →
      (∀ c o, c ≠ z → c ≠ TO → c ≠ i1 → c ≠ i2 → s.heap.get? c = some o → h'.get? c = some o) → Q (.done (.ret (.ref s.heap.objs.size))) { s with heap := h' })
    (hE : xs[k]? = none ∨ ys[k]? = none → ∀ h' e, (∀ c o, c ≠ z → c ≠ TO → c ≠ i1 → c ≠ i2 → s.heap.get? c = some o → h'.get? c = some o) → (∃ o, h'.get? e = some o ∧ o.cls = .type "StopIteration") → E (.ref e) { s with heap := h' }) :
    wpAny (model prog w) A (Builtin.«zip.__next__» ⟨[.ref z], []⟩) Q E s := by
  obtain ⟨t, c⟩ := st
  obtain ⟨hTI, ⟨a, b, hTO⟩, h1, h2⟩ := id t
  have both : (∃ x y, xs[k]? = some x ∧ ys[k]? = some y) ∨ (xs[k]? = none ∨ ys[k]? = none) := by
    cases xs[k]? with
    | none => exact .inr (.inl rfl)
    | some x => cases ys[k]? with
      | none => exact .inr (.inr rfl)
      | some y => exact .inl ⟨x, y, rfl, rfl⟩
  have post : ∀ {R : Value → Shared → Prop} {f : Fin} {g : Shared}, (∃ v, f = Fin.done (.ret v) ∧ R v g) → (∀ v, R v g → Q (.done (.ret v)) g) → Q f g := fun ⟨v, e, r⟩ k => by rw [e]; exact k v r
  rcases c with hz | ⟨T, f, hz⟩
  · rcases both with ⟨x, y, hx, hy⟩ | no
    · refine wpAny_mono (zip_next_item (Q := fun v g => Q (.done (.ret v)) g) D hz hTI hTO h1 h2 hl1 hl2 hx hy fun h' z' t' p1 p2 pr sz fr => ?_) (fun f g ⟨v, e, r⟩ => by rw [e]; exact r) fun _ _ r => r
      exact hQ x y hx hy h' ⟨⟨fr _ _ D.TIz D.TITO D.TIi1 D.TIi2 hTI, ⟨_, _, t'⟩, p1, p2⟩, .inr ⟨_, false, z'⟩⟩ pr sz fr
    · exact zip_next_end hh D hz hTI hTO h1 h2 hl1 hl2 no (hE no)
  · cases hT : s.heap.get? T with
    | none => exact zip_dead hh D hz hT t hl1 hl2 (fun x y hx hy h' z' t' pr sz fr => hQ x y hx hy h' ⟨t', .inr ⟨_, _, z'⟩⟩ pr sz fr) hE
    | some oT =>
      rcases both with ⟨x, y, hx, hy⟩ | no
      · refine wpAny_mono (zip_next_item_held (Q := fun v g => Q (.done (.ret v)) g) D hz hT hTI h1 h2 hl1 hl2 hx hy fun h' z' p1 p2 pr sz fr => ?_) (fun f g ⟨v, e, r⟩ => by rw [e]; exact r) fun _ _ r => r
        exact hQ x y hx hy h' ⟨⟨fr _ _ D.TIz D.TIi1 D.TIi2 hTI, ⟨_, _, fr _ _ D.TOz D.TOi1 D.TOi2 hTO⟩, p1, p2⟩, .inr ⟨_, true, z'⟩⟩ pr sz fun c o c1 _ c3 c4 e => fr c o c1 c3 c4 e
      · exact zip_next_end_held hh D hz hT hTI h1 h2 hl1 hl2 no fun h' e fr he => hE no h' e (fun c o c1 _ c3 c4 x => fr c o c1 c3 c4 x) he
theorem ZipSt.typeIs {z TI TO i1 i2 l1 l2 : Addr} {k : Nat} (st : ZipSt s.heap z TI TO i1 i2 l1 l2 k) : s.TypeIs (.ref z) "zip" := by
  rcases st.zip with h | ⟨_, _, h⟩ <;> exact ⟨_, h, rfl⟩
theorem zip_nextOf {z TI TO i1 i2 l1 l2 : Addr} {k : Nat} {xs ys : Array Value} {Q : Value → Shared → Prop} (hh : A.handled = none) (D : ZipApart z TI TO i1 i2 l1 l2)
    (st : ZipSt s.heap z TI TO i1 i2 l1 l2 k) (hl1 : s.heap.IsList l1 xs) (hl2 : s.heap.IsList l2 ys)
    (hQ : ∀ x y, xs[k]? = some x → ys[k]? = some y → ∀ h', ZipSt h' z TI TO i1 i2 l1 l2 (k + 1) → PySem.IsPair h' s.heap.objs.size x y → h'.objs.size = s.heap.objs.size + 1 →
      (∀ c o, c ≠ z → c ≠ TO → c ≠ i1 → c ≠ i2 → s.heap.get? c = some o → h'.get? c = some o) → Q (.ref s.heap.objs.size) { s with heap := h' })
    (hE : xs[k]? = none ∨ ys[k]? = none → ∀ h' e, (∀ c o, c ≠ z → c ≠ TO → c ≠ i1 → c ≠ i2 → s.heap.get? c = some o → h'.get? c = some o) → (∃ o, h'.get? e = some o ∧ o.cls = .type "StopIteration") → E (.ref e) { s with heap := h' }) :
    wpAny (model prog w) A (Builtin.SmallTypes.nextOf (.ref z)) Q E s := by
  unfold Builtin.SmallTypes.nextOf
  refine wpAny_bind (wpAny_callSpecial?_slot (name := Str.ofString "__next__") st.typeIs F.slot_zip_next
    (wpAny_call_entry F.slot_zip_next st.typeIs F.entry_zip_next ?_ (F.args_zip_next_1 _)))
  exact zip_next hh D st hl1 hl2 (fun x y hx hy h' a b c d => ⟨_, rfl, wpAny_pure (hQ x y hx hy h' a b c d)⟩) hE
/-- enumerate over any iterator: N is told of what its next gives -/
theorem enum_over {e it : Addr} {i : Nat} {old : Value} {Q : Option Value → Shared → Prop} {R : Value → Heap → Nat → Prop} {S : Heap → Prop}
    (he : IsEnum s.heap e it i old)
    (N : ∀ (Q' : Value → Shared → Prop) (E' : Value → Shared → Prop), (∀ x g tk, R x g tk → IsEnum g e it i old → Q' x { s with heap := g, toks := tk }) → (∀ g x, S g → (∃ o, g.get? x = some o ∧ o.cls = .type "StopIteration") → E' (.ref x) { s with heap := g }) →
      wpAny (model prog w) A.in1 (Builtin.SmallTypes.nextOf (.ref it)) Q' E' s)
    (hQ : ∀ x g tk g', R x g tk → IsEnumOut g' e it ((i : Int) + 1) x g.objs.size → g'.get? g.objs.size = some { cls := .type "tuple", data := .seq #[.int i tk, x] } → g'.objs.size = g.objs.size + 1 →
      (∀ b o, b ≠ e → g.get? b = some o → g'.get? b = some o) → e < g.objs.size → Q (some (.ref g.objs.size)) { s with heap := g', toks := tk + 1 })
    (hE : ∀ g, S g → Q none { s with heap := g }) : wpAny (model prog w) A (pyNext (.ref e)) Q E s := by
  obtain ⟨hp, gn, d, tk₀, os⟩ := s
  have hT : (⟨hp, gn, d, tk₀, os⟩ : Shared).TypeIs (.ref e) "enumerate" := ⟨_, he, rfl⟩
  unfold pyNext
  refine wpAny_bind (wpAny_attempt (wpAny_callSpecial?_slot (name := Str.ofString "__next__") hT F.slot_enumerate_next
    (wpAny_call_entry F.slot_enumerate_next hT F.entry_enumerate_next ?_ (F.args_enumerate_next_1 _))))
  show wpAny _ _ (field (.ref e) 2 >>= _) _ _ _
  refine wpAny_bind (wpAny_field he rfl (x := .ref it) rfl ?_)
  refine wpAny_bind (N _ _ (fun x g tk hR he1 => ?_) fun g x hS hx => ?_)
  · show wpAny _ _ (field (.ref e) 3 >>= _) _ _ ⟨g, gn, d, tk, os⟩
    refine wpAny_bind (wpAny_field he1 rfl (x := rawInt i) rfl ?_)
    show wpAny _ _ (field (.ref e) 4 >>= _) _ _ ⟨g, gn, d, tk, os⟩
    refine wpAny_bind (wpAny_field he1 rfl (x := .none) rfl ?_)
    show wpAny _ _ (mkInt i >>= _) _ _ ⟨g, gn, d, tk, os⟩
    refine wpAny_bind (wpAny_mkInt ?_)
    show wpAny _ _ (setField (.ref e) 3 (rawInt ((i : Int) + 1)) >>= _) _ _ ⟨g, gn, d, tk + 1, os⟩
    refine wpAny_bind (wpAny_setField_rec he1 (by simp) fun g2 e2 s2 => ?_)
    replace e2 : IsEnum g2 e it ((i : Int) + 1) old := e2
    show wpAny _ _ (setField (.ref e) 4 .none >>= _) _ _ ⟨g2, gn, d, tk + 1, os⟩
    refine wpAny_bind (wpAny_setField_rec e2 (by simp) fun g3 e3 s3 => ?_)
    replace e3 : IsEnum g3 e it ((i : Int) + 1) old := e3
    show wpAny _ _ (newTuple [.int i tk, x] >>= _) _ _ ⟨g3, gn, d, tk + 1, os⟩
    refine wpAny_bind (wpAny_newTuple ?_)
    have sz : g3.objs.size = g.objs.size := by rw [s3.1]; exact s2.1
    have el : e < g.objs.size := Heap.lt_size he1
    have e4 : IsEnum (g3.push { cls := .type "tuple", data := .seq #[.int i tk, x] }) e it ((i : Int) + 1) old := Heap.get?_push_of_some _ e3
    have t4 : (g3.push { cls := .type "tuple", data := .seq #[.int i tk, x] }).get? g.objs.size = some { cls := .type "tuple", data := .seq #[.int i tk, x] } := by
      rw [← sz]; exact Heap.get?_push_size _ rfl
    have z4 : (g3.push { cls := .type "tuple", data := .seq #[.int i tk, x] }).objs.size = g.objs.size + 1 := by rw [Heap.size_push, sz]
    have k4 : ∀ b o, b ≠ e → g.get? b = some o → (g3.push { cls := .type "tuple", data := .seq #[.int i tk, x] }).get? b = some o := fun b o ne h => Heap.get?_push_of_some _ (s3.extBut b o ne (s2.extBut b o ne h))
    rw [sz]
    generalize g3.push { cls := .type "tuple", data := .seq #[.int i tk, x] } = g4 at e4 t4 z4 k4
    show wpAny _ _ (Builtin.SmallTypes.ownedTupleIsFree (.ref e) >>= _) _ _ ⟨g4, gn, d, tk + 1, os⟩
    refine wpAny_bind ?_
    unfold Builtin.SmallTypes.ownedTupleIsFree
    refine wpAny_bind (wpAny_field e4 rfl (x := .none) rfl (wpAny_pure ?_))
    simp only [if_true]
    refine wpAny_bind (wpAny_rule (wpAny_bind (wpAny_field e4 rfl (x := old) rfl (wpAny_bind (wpAny_setField_rec e4 (by simp) fun g5 e5 s5 => ?_)))))
    replace e5 : IsEnum g5 e it ((i : Int) + 1) x := e5
    show wpAny _ _ (Builtin.SmallTypes.ownedTupleHandOut (.ref e) (.ref g.objs.size) >>= _) _ _ ⟨g5, gn, d, tk + 1, os⟩
    refine wpAny_bind ?_
    unfold Builtin.SmallTypes.ownedTupleHandOut
    refine wpAny_bind (wpAny_setField_rec e5 (by simp) fun g6 e6 s6 => ?_)
    replace e6 : IsEnumOut g6 e it ((i : Int) + 1) x g.objs.size := e6
    refine wpAny_setField_rec e6 (by simp) fun g7 e7 s7 => ?_
    replace e7 : IsEnumOut g7 e it ((i : Int) + 1) x g.objs.size := e7
    have up : ∀ b o, b ≠ e → g4.get? b = some o → g7.get? b = some o := fun b o ne h => s7.extBut b o ne (s6.extBut b o ne (s5.extBut b o ne h))
    refine wpAny_bind (wpAny_letGo (wpAny_pure ⟨_, rfl, wpAny_pure (hQ x g tk g7 hR e7 (up _ _ (Nat.ne_of_gt el) t4) ?_ (fun b o ne h => up b o ne (k4 b o ne h)) el)⟩))
    rw [s7.1, s6.1, s5.1, z4]
  · obtain ⟨o, ho, hc⟩ := hx
    refine wpAny_bind (wpAny_isInstance (T := "StopIteration") (b := true) ⟨o, ho, hc⟩ isSubtype_stop ?_)
    exact wpAny_pure (hE g hS)
end
abbrev eob (z : Addr) : Obj := { cls := .type "enumerate", data := .fields #[.none, .bool false, .ref z, rawInt 0, .none, .none] }
theorem new_enum_zip (z TI TO : Addr) :
    Meets (Builtin.«enumerate.__new__» ⟨[.type "enumerate", .ref z], []⟩) (fun _ R s => IsZip s.heap z TI TO .none ∧ R (.ok (.ret (.ref s.heap.objs.size))) { s with heap := s.heap.push (eob z) }) :=
  .of_wp fun prog w A R s h => by
    obtain ⟨hp, g, d, tk, os⟩ := s
    obtain ⟨hz, h⟩ := h
    have hz : IsZip (Shared.heap ⟨hp, g, d, tk, os⟩) z TI TO .none := hz
    have hsub := sub_enumerate
    wp_walk
    refine wpAny_stack_any fun st => wpAny_pure ?_
    split
    · rename_i c _ _ _ _ _
      cases (c == Value.type "enumerate") <;> (wp_walk using wpAny_pyIter_zip hz; exact ⟨_, rfl, h⟩)
    · wp_walk using wpAny_pyIter_zip hz
      exact ⟨_, rfl, h⟩
theorem call_enum_zip {prog : Program} {w : World} {A : Around} {E : Value → Shared → Prop} {s : Shared} {z TI TO : Addr} {Q : Value → Shared → Prop} (hz : IsZip s.heap z TI TO .none)
    (h : ∀ h', IsEnum h' s.heap.objs.size z 0 .none → h'.objs.size = s.heap.objs.size + 1 → (∀ b o, s.heap.get? b = some o → h'.get? b = some o) → Q (.ref s.heap.objs.size) { s with heap := h' }) :
    wpAny (model prog w) A (call (.type "enumerate") [.ref z]) Q E s := by
  refine callType_new F.called_enumerate (by decide) (F.typeCall_enumerate_1 _) (F.newCall_enumerate_1 _) (fun obj => F.args_object_init_2 obj _) F.entry_enumerate_new (new_enum_zip z TI TO) ⟨hz, ?_⟩
  have he : IsEnum (s.heap.push (eob z)) s.heap.objs.size z 0 .none := Heap.get?_push_size _ rfl
  exact ⟨⟨_, he, rfl⟩, h _ he (Heap.size_push ..) fun b o x => Heap.get?_push_of_some _ x⟩
/-- the lists at a and b as they stand at each turn: a new pair of the turn and a new pair of the items -/
def Itez (K : PySem.W.Frag) (a b : Addr) : It :=
  ⟨fun i H => ∃ (xs ys : List V) (x y : V), SqL K H a xs ∧ SqL K H b ys ∧ xs[i]? = some x ∧ ys[i]? = some y,
    fun i H v H' => ∃ (U T : Addr) (x y : V), v = .ref T ∧ H U = none ∧ upd H U (.tup [x, y]) T = none ∧ H' = upd (upd H U (.tup [x, y])) T (.tup [.int (i : Nat), .ref U]) ∧ (∀ xs, SqL K H a xs → xs[i]? = some x) ∧ ∀ ys, SqL K H b ys → ys[i]? = some y,
    fun i H => ∃ xs ys : List V, SqL K H a xs ∧ SqL K H b ys ∧ (xs.length ≤ i ∨ ys.length ≤ i)⟩
theorem turn_enumzip {P : Program} {w : World} {K : PySem.W.Frag} {elts : List Expr} {kk : Nat} {tpos : Pos} {a b e z TI TO i1 i2 : Addr} (D : ZipApart z TI TO i1 i2 a b) (n0 : e ≠ z) (n1 : e ≠ TI) (n2 : e ≠ TO) (n3 : e ≠ i1) (n4 : e ≠ i2) :
    Turn P w K (.Tuple elts kk tpos) (Itez K a b) [e, z, TI, TO, i1, i2] e (fun i h => (∃ old, IsEnum h e z ((i : Nat) : Int) old) ∧ ZipSt h z TI TO i1 i2 a b i) where
  mem := by simp
  obj := fun i h st c hc => by
    obtain ⟨⟨old, he⟩, ⟨⟨hTI, ⟨x, y, hTO⟩, ⟨o1, e1, _, d1⟩, ⟨o2, e2, _, d2⟩⟩, hz⟩⟩ := st
    have e' : c = e ∨ c = z ∨ c = TI ∨ c = TO ∨ c = i1 ∨ c = i2 := by simpa using hc
    rcases e' with q | q | q | q | q | q
    · rw [q]; exact ⟨_, he, fun v q => nomatch q⟩
    · rw [q]
      rcases hz with h | ⟨_, _, h⟩ <;> exact ⟨_, h, fun v q => nomatch q⟩
    · rw [q]; exact ⟨_, hTI, fun v q => nomatch q⟩
    · rw [q]; exact ⟨_, hTO, fun v q => nomatch q⟩
    · rw [q]; exact ⟨o1, e1, fun v q => by rw [d1] at q; cases q⟩
    · rw [q]; exact ⟨o2, e2, fun v q => by rw [d2] at q; cases q⟩
  keep := fun i h h' st k => by
    obtain ⟨⟨old, he⟩, ⟨⟨hTI, ⟨x, y, hTO⟩, h1, h2⟩, hz⟩⟩ := st
    refine ⟨⟨old, k e (by simp) _ he⟩, ⟨⟨k TI (by simp) _ hTI, ⟨x, y, k TO (by simp) _ hTO⟩, h1.at fun o q => k i1 (by simp) o q, h2.at fun o q => k i2 (by simp) o q⟩, ?_⟩⟩
    rcases hz with h | ⟨T, f, h⟩
    · exact .inl (k z (by simp) _ h)
    · exact .inr ⟨T, f, k z (by simp) _ h⟩
  item := by
    intro X hP hw hK hc i pins s σ H E I hf st hg
    subst hP hw hK
    obtain ⟨⟨old, he⟩, hzs⟩ := st
    obtain ⟨xs, ys, x, y, hqx, hqy, hx, hy⟩ := hg
    obtain ⟨its, rv, p, _⟩ := I.list hqx
    obtain ⟨its2, rv2, p2, _⟩ := I.list hqy
    obtain ⟨u, hu, ru⟩ := rv.get hx
    obtain ⟨u2, hu2, ru2⟩ := rv2.get hy
    have hh := I.ok.hd hc
    refine enum_over (R := fun v g tk => v = .ref s.heap.objs.size ∧ tk = s.toks ∧ ZipSt g z TI TO i1 i2 a b (i + 1) ∧ PySem.IsPair g s.heap.objs.size u u2 ∧ g.objs.size = s.heap.objs.size + 1 ∧ ∀ c o, c ≠ z → c ≠ TO → c ≠ i1 → c ≠ i2 → s.heap.get? c = some o → g.get? c = some o) (S := fun _ => False) he
      (fun Q' E' k _ => zip_nextOf (xs := its.toArray) (ys := its2.toArray) hh D hzs p.isList p2.isList (fun v v2 hv hv2 g zs pr sz fr => ?_) fun no => ?_) (fun v g tk g' hR eo tu sz fr el => ?_) (fun _ no => no.elim)
    · rw [List.getElem?_toArray] at hv hv2
      rw [hu] at hv
      rw [hu2] at hv2
      cases hv
      cases hv2
      exact k _ g s.toks ⟨rfl, rfl, zs, pr, sz, fr⟩ (fr e _ n0 n2 n3 n4 he)
    · rw [List.getElem?_toArray, List.getElem?_toArray, hu, hu2] at no
      rcases no with no | no <;> cases no
    · obtain ⟨rfl, rfl, zs, pr, sz1, fr1⟩ := hR
      refine ⟨.ref g.objs.size, rfl, wpAny_letOwnedTupleGo_enum (s := { s with heap := g', toks := s.toks + 1 }) eo fun g2 e2 sb => ?_⟩
      have el0 : e < s.heap.objs.size := Heap.lt_size he
      have I1 : Inv X pins σ (upd H s.heap.objs.size (.tup [x, y])) { s with heap := g, toks := s.toks } :=
        I.turnedNew (ch := [z, TI, TO, i1, i2]) (fun c o hb q => fr1 c o (fun q' => hb (by simp [q'])) (fun q' => hb (by simp [q'])) (fun q' => hb (by simp [q'])) (fun q' => hb (by simp [q'])) q) (fun c hcm => hf c (List.mem_cons_of_mem _ hcm)) (Nat.le_refl _)
          ⟨by show 2 ≤ sizeLine; decide, [u, u2], .cons ru (.cons ru2 .nil), ⟨_, pr, rfl, _, rfl⟩⟩
      have k2 : ∀ c o, c ∉ [e] → g.get? c = some o → g2.get? c = some o := fun c o hb q => by
        have ne : c ≠ e := fun q' => hb (by simp [q'])
        exact (sb.2 c ne).trans (fr c o ne q)
      have tu2 : g2.get? g.objs.size = some { cls := .type "tuple", data := .seq #[.int i s.toks, .ref s.heap.objs.size] } := (sb.2 _ (Nat.ne_of_gt el)).trans tu
      have I2 := I1.turnedNew (ch := [e]) (h' := g2) (t' := s.toks + 1) (T := g.objs.size) (ob := .tup [.int (i : Nat), .ref s.heap.objs.size]) k2 (fun c hcm => by
        rw [List.mem_singleton.mp hcm]
        obtain ⟨f0, f1⟩ := hf e (by simp)
        exact ⟨by rw [upd_ne (Nat.ne_of_lt el0)]; exact f0, f1⟩) (Nat.le_refl _)
          ⟨by show 2 ≤ sizeLine; decide, [.int i s.toks, .ref s.heap.objs.size], .cons ⟨_, rfl⟩ (.cons rfl .nil), ⟨_, tu2, rfl, _, rfl⟩⟩
      refine ⟨.ref g.objs.size, _, I2, rfl, ⟨s.heap.objs.size, g.objs.size, x, y, rfl, I.hok.fresh (Nat.le_refl _), I1.hok.fresh (Nat.le_refl _), rfl, fun l hl => by rw [I.list_inj hl hqx]; exact hx, fun l hl => by rw [I.list_inj hl hqy]; exact hy⟩, ⟨⟨.ref s.heap.objs.size, ?_⟩, ?_⟩, fun c hcm => ?_⟩
      · have e1 : ((i + 1 : Nat) : Int) = (i : Int) + 1 := by omega
        rw [e1]; exact e2
      · obtain ⟨⟨hTI, ⟨x', y', hTO⟩, h1, h2⟩, hz⟩ := zs
        have up : ∀ c o, c ≠ e → g.get? c = some o → g2.get? c = some o := fun c o ne q => (sb.2 c ne).trans (fr c o ne q)
        refine ⟨⟨up _ _ n1.symm hTI, ⟨x', y', up _ _ n2.symm hTO⟩, h1.at fun o q => up _ o n3.symm q, h2.at fun o q => up _ o n4.symm q⟩, ?_⟩
        rcases hz with h | ⟨T, f, h⟩
        · exact .inl (up _ _ n0.symm h)
        · exact .inr ⟨T, f, up _ _ n0.symm h⟩
      · have hlt : c < s.heap.objs.size := by
          obtain ⟨⟨hTI, ⟨x', y', hTO⟩, h1, h2⟩, hz⟩ := hzs
          have e' : c = e ∨ c = z ∨ c = TI ∨ c = TO ∨ c = i1 ∨ c = i2 := by simpa using hcm
          rcases e' with q | q | q | q | q | q
          · rw [q]; exact el0
          · rw [q]
            rcases hz with h | ⟨_, _, h⟩ <;> exact Heap.lt_size h
          · rw [q]; exact Heap.lt_size hTI
          · rw [q]; exact Heap.lt_size hTO
          · rw [q]; obtain ⟨_, e1, _⟩ := h1; exact Heap.lt_size e1
          · rw [q]; obtain ⟨_, e1, _⟩ := h2; exact Heap.lt_size e1
        rw [upd_ne (by rw [sz1]; exact Nat.ne_of_lt (Nat.lt_succ_of_lt hlt)), upd_ne (Nat.ne_of_lt hlt)]
        exact (hf c hcm).1
  done := by
    intro X hP hw hK hc i pins s σ H E I hf st hg
    subst hP hw hK
    obtain ⟨⟨old, he⟩, hzs⟩ := st
    obtain ⟨xs, ys, hqx, hqy, hend⟩ := hg
    obtain ⟨its, rv, p, _⟩ := I.list hqx
    obtain ⟨its2, rv2, p2, _⟩ := I.list hqy
    have l1 := rv.length
    have l2 := rv2.length
    have hh := I.ok.hd hc
    have no : its.toArray[i]? = none ∨ its2.toArray[i]? = none := by
      rcases hend with q | q
      · exact .inl (by simp; omega)
      · exact .inr (by simp; omega)
    refine enum_over (R := fun _ _ _ => False) (S := fun g => ∀ c o, c ≠ z → c ≠ TO → c ≠ i1 → c ≠ i2 → s.heap.get? c = some o → g.get? c = some o) he
      (fun Q' E' _ k => zip_nextOf (xs := its.toArray) (ys := its2.toArray) hh D hzs p.isList p2.isList (fun v v2 hv hv2 g zs pr sz fr => ?_) fun _ g x fr hx => k g x fr hx) (fun _ _ _ _ no => no.elim) fun g fr => ?_
    · rcases no with n | n
      · rw [n] at hv; cases hv
      · rw [n] at hv2; cases hv2
    · exact ⟨rfl, I.turnedL (t' := s.toks) (ch := [e, z, TI, TO, i1, i2]) (fun c o hb q => fr c o (fun q' => hb (by simp [q'])) (fun q' => hb (by simp [q'])) (fun q' => hb (by simp [q'])) (fun q' => hb (by simp [q'])) q) hf⟩
  self := fun A i s Q E st h => let ⟨⟨_, he⟩, _⟩ := st; wpAny_pyIter_enum he h
def iEnumZip (K : PySem.W.Frag) (ta : TA) : TI := fun σ H R => ta σ H fun vs H1 => ∃ a b xs ys, vs = [.ref a, .ref b] ∧ SqL K H1 a xs ∧ SqL K H1 b ys ∧ R (Itez K a b) H1
theorem pi_enumzip {X : Cx} {e e2 : Expr} {ta : TA} {p p2 q pos tpos : Pos} {elts : List Expr} {kk : Nat} (hg : Gl X "enumerate") (hm : X.mg "enumerate" = none) (hg2 : Gl X "zip") (hm2 : X.mg "zip" = none) (ha : PA X [e, e2] ta)
    (hs : starEach [e, e2] X.env = (false, eval e X.env) :: starEach [e2] X.env := by rfl) (hpl : (backTo q (starEach [e2] X.env)).any (·.1) = false := by rfl) :
    PI X (.Tuple elts kk tpos) (.Call (.Name "enumerate" p) [.Call (.Name "zip" p2) [e, e2] [] q] [] pos) (iEnumZip X.K ta) := by
  refine ⟨fun pins s σ H R I h => ?_⟩
  refine PyProof.Rows.Call_ (ld_blt I hg hm boot_enumerate ?_)
  refine PyProof.Rows.callWith_type1 (PyProof.Rows.args_cons ?_ rfl) rfl rfl
  refine PyProof.Rows.Call_ (ld_blt I hg2 hm2 PyProof.Rows.boot_zip (PyProof.Rows.callWith_type1 (thn (ha.run q pins s σ H _ I h) fun us s1 ⟨vs, H1, I1, r1, q1⟩ => ?_) hs hpl))
  obtain ⟨a, b, xs, ys, ex, hqx, hqy, q1⟩ := q1
  subst ex
  cases r1 with
  | cons r rr =>
    cases rr with
    | cons r' rr =>
      cases rr
      cases r
      cases r'
      obtain ⟨its, rv, p1, z1⟩ := I1.list hqx
      obtain ⟨its2, rv2, p2, z2⟩ := I1.list hqy
      have la : a < s1.heap.objs.size := p1.lt
      have lb : b < s1.heap.objs.size := p2.lt
      refine call_zip_2 p1.isList p2.isList fun h1 hz hTI hTO j1 j2 hsz hk => PyProof.Rows.args_nil ?_
      refine call_enum_zip (s := { s1 with heap := h1 }) hz fun h2 he sz2 k2 => wpAny_pyIter_enum he ?_
      have I2 : Inv X pins σ H1 { s1 with heap := h2 } := I1.kept (t' := s1.toks) fun b o e => k2 b o (hk b o e)
      have he : IsEnum h2 h1.objs.size (s1.heap.objs.size + 4) ((0 : Nat) : Int) .none := he
      have n5 : h1.objs.size = s1.heap.objs.size + 5 := hsz
      rw [n5] at he
      have ne : ∀ k, k < 5 → h1.objs.size ≠ s1.heap.objs.size + k := fun k hk => by rw [n5]; omega
      refine ⟨h1.objs.size, [h1.objs.size, s1.heap.objs.size + 4, s1.heap.objs.size + 2, s1.heap.objs.size + 3, s1.heap.objs.size, s1.heap.objs.size + 1], _, _, H1, rfl, I2, turn_enumzip (e := h1.objs.size) (PySem.W.ktu_apart s1.heap.objs.size a b la lb) (ne 4 (by decide)) (ne 2 (by decide)) (ne 3 (by decide)) (ne 0 (by decide)) (ne 1 (by decide)), ⟨⟨_, by rw [n5]; exact he⟩, ⟨⟨k2 _ _ hTI, ⟨_, _, k2 _ _ hTO⟩, j1.at fun o e => k2 _ o e, j2.at fun o e => k2 _ o e⟩, .inl (k2 _ _ hz)⟩⟩, fun c hcm => ?_, q1⟩
      have e' : c = h1.objs.size ∨ c = s1.heap.objs.size + 4 ∨ c = s1.heap.objs.size + 2 ∨ c = s1.heap.objs.size + 3 ∨ c = s1.heap.objs.size ∨ c = s1.heap.objs.size + 1 := by simpa using hcm
      have hle : s1.heap.objs.size ≤ c := by
        rcases e' with z | z | z | z | z | z
        · rw [z, n5]; exact Nat.le_add_right _ _
        · rw [z]; exact Nat.le_add_right _ _
        · rw [z]; exact Nat.le_add_right _ _
        · rw [z]; exact Nat.le_add_right _ _
        · rw [z]; exact Nat.le_refl _
        · rw [z]; exact Nat.le_add_right _ _
      exact I1.fpOk hle (I1.hok.fresh hle)
section
open Evl (Ex)
open Py (rp)
variable {α β : Type} [Py α] [Py β] {K : PySem.W.Frag} {XP : XPost} {D : List Sl}
theorem EWI.enumZip {tl th : TE} {m : W (List α)} {n : W (List β)} (h : EW XP D tl m) (h' : EW XP D th n) : EWI XP D (iEnumZip K (tCons tl (tCons th tNil))) (m.bind fun xs => n.bind fun ys => W.pure (enumL (xs.zip ys))) := fun B O0 O G H σ Q fr s q =>
  h fr s (m.mono (fun xs k v G2 H2 e s2 ⟨a, vs, ev, ha, ra⟩ => h' (fr.up e) s2 (n.mono (fun ys k w G3 H3 e3 s3 ⟨b, us, eu, hb, rb⟩ => ⟨a, b, vs, us, by rw [ev, eu], SqL.of (s3.ex a _ (e3 a _ ha)), SqL.of (s3.ex b _ hb), k _ G3 H3 (Ex.t e e3) s3 fun i O4 G4 H4 e4 s4 => by
    have sq : SqL K H4 a vs := SqL.of (s4.ex a _ (e4 a _ (e3 a _ ha)))
    have sr : SqL K H4 b us := SqL.of (s4.ex b _ (e4 b _ hb))
    refine ⟨fun p hp => ?_, fun hi => ⟨vs, us, sq, sr, ?_⟩⟩
    · obtain ⟨j1, j2⟩ := enumL_at hp
      rw [List.getElem?_zip_eq_some] at j2
      obtain ⟨y, hy, ry⟩ := all2_get ra j2.1
      obtain ⟨z, hz, rz⟩ := all2_get rb j2.2
      refine ⟨⟨vs, us, y, z, sq, sr, hy, hz⟩, fun v H5 hv => ?_⟩
      obtain ⟨U, T, x1, x2, rfl, hU, hT, rfl, z1, z2⟩ := hv
      have z1 := z1 vs sq
      have z2 := z2 us sr
      rw [hy] at z1
      rw [hz] at z2
      cases z1; cases z2
      obtain ⟨G5, e5, s5, r5⟩ := pair_still (x := p.2.1) (y := p.2.2) s4 hU (Py.up (Ex.t e3 e4) ry) (Py.up e4 rz)
      obtain ⟨G6, e6, s6, r6⟩ := pair_still (x := p.1) (y := p.2) (u := .int (i : Nat)) s5 hT (by rw [j1]; rfl) r5
      exact ⟨G6, Ex.t e5 e6, s6, r6⟩
    · rw [hi, enumL_len, List.length_zip, ← all2_len ra, ← all2_len rb]
      omega⟩) (PX.up e) k)) (fun _ x => x) q)
end
theorem m_popAt {X : Cx} : MtR X "list.pop" rPopAt := mt_popAt
section
open Evl (Ex)
open Py (rp)
variable {α β γ δ : Type} [Py α] [Py β] [Py γ] [Py δ] {K : PySem.W.Frag} {XP : XPost} {D : List Sl} {ta tb te : TE}
theorem all2_erase {G : Hp} : ∀ {us : List V} {ys : List α} (m : Nat), All2 G us ys → All2 G (us.eraseIdx m) (ys.eraseIdx m)
  | _, _, _, .nil => .nil
  | _, _, 0, .cons _ t => t
  | _, _, m + 1, .cons r t => .cons r (all2_erase m t)
/-- y = xs.pop(e), xs a list of one's own -/
theorem StW.popAt {i j : Nat} {s : Sl} {xs : List α} {n : W Int} (hi : D[i]? = some (own xs)) (hj : ∀ ys : List α, (D.set i (own ys))[j]? = some s) (h : EW XP D ta n) :
    StW XP D (tAsg (tBM K "list" rPopAt (tVar i) (tCons ta tNil)) (gName j)) (n.bind fun k => W.chk (0 ≤ k ∧ xs.length ≤ 1000000) ((W.get xs[k.toNat]?).bind fun a => W.pure (xs.eraseIdx k.toNat, a))) fun p => (D.set i (own p.1)).set j (stv p.2) := fun B O0 O G H σ Ds fr s q => by
  obtain ⟨p, ws, O1, O2, e1, e2, ra, z⟩ := fr.ownAt hi
  have hp : H p = some (.lst ws) := (s.own (p, .lst ws) (by rw [e1]; simp)).1
  refine ⟨.ref p, e2, .inl ⟨rfl, ws, SqL.of hp⟩, h fr s (n.mono (fun k ⟨⟨c1, c2⟩, a, ea, kk⟩ v G2 H2 e s2 r => ?_) (fun _ x => x) q)⟩
  have s3 : Sx B ((p, .lst ws) :: (O1 ++ O2 ++ O0)) G2 H2 := by rw [e1] at s2; exact s2.perm mid_head
  obtain ⟨y, hy, ry⟩ := all2_get ra ea
  have hl : k.toNat < ws.length := (List.getElem?_eq_some_iff.mp hy).1
  have wl : ws.length ≤ 1000000 := by rw [all2_len ra]; exact c2
  have ek : k = (k.toNat : Int) := (Int.toNat_of_nonneg c1).symm
  have sq : seqIndex? k ws.length = some k.toNat := by
    unfold seqIndex?
    dsimp only
    rw [if_neg (show ¬ k < 0 by omega), if_pos (by simp only [Bool.and_eq_true, decide_eq_true_eq]; omega)]
  refine ⟨p, ws, k, k.toNat, y, rfl, by rw [r], s3.head.1, by omega, by omega, sq, hy, ?_⟩
  have fr2 := z G2 (ws.eraseIdx k.toNat) (xs.eraseIdx k.toNat) e (all2_erase _ (all2_up e ra))
  obtain ⟨O', f, sb⟩ := fr2.put (hj _) (a := a) (Py.up e ry)
  exact kk _ O' G2 _ e f (sub_app (s3.put.perm mid_new) sb)
/-- x or y, x None or a tuple of three -/
theorem EW.orO3 {m : W (Option (Tp3 α β γ))} {n : W δ} (h : EW XP D ta m) (h' : EW XP D tb n) : EW (α := δ ⊕ Tp3 α β γ) XP D (tOrT K ta tb) (m.bind fun o => Option.elim o (n.bind fun y => W.pure (Sum.inl y)) fun x => W.pure (Sum.inr x)) := fun B O0 O G H σ Q fr s q =>
  h fr s (m.mono (fun o k v G2 H2 e2 s2 rv => by
    cases o with
    | none =>
      have ev : v = .non := rv
      refine ⟨false, by rw [ev]; exact rfl, ?_⟩
      exact h' (fr.up e2) s2 (n.mono (PV.up e2) (PX.up e2) k)
    | some x =>
      obtain ⟨a, y, z, u, ev, ha, _⟩ := id (show rp G2 v x from rv)
      refine ⟨true, by rw [ev]; exact .inr (.inl ⟨_, SqT.of (s2.ex a _ ha), rfl⟩), ?_⟩
      exact k v G2 H2 e2 s2 rv) (fun _ x => x) q)
end
end Dk


set_option Elab.async false
set_option linter.all false
set_option maxRecDepth 100000
set_option maxHeartbeats 4000000
namespace My
open PySem PySem.Spec PyProof.Rows L2 Dk
open Evl (Ex)
open Dk.Py (rp)
open Dk.PyD (pic)
def topS (i : Nat) : Stmt := PySem.Challenge.pw_deskkeepers_k63_whole_great_comparisons.main.body.getD i (.Pass ⟨0, 0, 0, 0⟩)
abbrev s_ordered : Stmt := topS 2
abbrev n_ordered : List Str := ["roster", "line", "desk", "crew", "worker"]
abbrev p_ordered : List Str := ["roster", "line", "desk"]
theorem sc_ordered : FnScope n_ordered p_ordered (defScope s_ordered) := ⟨rfl, rfl, rfl, by decide +kernel, rfl, by decide +kernel, by decide +kernel⟩
abbrev s_first_difference : Stmt := topS 3
abbrev n_first_difference : List Str := ["workers", "others", "at", "worker", "other"]
abbrev p_first_difference : List Str := ["workers", "others"]
theorem sc_first_difference : FnScope n_first_difference p_first_difference (defScope s_first_difference) := ⟨rfl, rfl, rfl, by decide +kernel, rfl, by decide +kernel, by decide +kernel⟩
abbrev s_compare : Stmt := topS 4
abbrev n_compare : List Str := ["roster", "line", "other", "retirements", "found", "desk", "at", "many"]
abbrev p_compare : List Str := ["roster", "line", "other", "retirements"]
theorem sc_compare : FnScope n_compare p_compare (defScope s_compare) := ⟨rfl, rfl, rfl, by decide +kernel, rfl, by decide +kernel, by decide +kernel⟩
abbrev s_Wrong_init : Stmt := inClass (topS 7) 0
abbrev n_Wrong_init : List Str := ["self", "place"]
abbrev p_Wrong_init : List Str := ["self", "place"]
theorem sc_Wrong_init : FnScope n_Wrong_init p_Wrong_init (defScope s_Wrong_init) := ⟨rfl, rfl, rfl, by decide +kernel, rfl, by decide +kernel, by decide +kernel⟩
abbrev s_BadDesk_init : Stmt := inClass (topS 8) 0
abbrev n_BadDesk_init : List Str := ["self", "at"]
abbrev p_BadDesk_init : List Str := ["self", "at"]
theorem sc_BadDesk_init : FnScope n_BadDesk_init p_BadDesk_init (defScope s_BadDesk_init) := ⟨rfl, rfl, rfl, by decide +kernel, rfl, by decide +kernel, by decide +kernel⟩
abbrev s_NoDesk_init : Stmt := inClass (topS 9) 0
abbrev n_NoDesk_init : List Str := ["self", "name"]
abbrev p_NoDesk_init : List Str := ["self", "name"]
theorem sc_NoDesk_init : FnScope n_NoDesk_init p_NoDesk_init (defScope s_NoDesk_init) := ⟨rfl, rfl, rfl, by decide +kernel, rfl, by decide +kernel, by decide +kernel⟩
abbrev s_is_name : Stmt := topS 13
abbrev n_is_name : List Str := ["thing", "letter"]
abbrev p_is_name : List Str := ["thing"]
theorem sc_is_name : FnScope n_is_name p_is_name (defScope s_is_name) := ⟨rfl, rfl, rfl, by decide +kernel, rfl, by decide +kernel, by decide +kernel⟩
abbrev s_are_names : Stmt := topS 14
abbrev n_are_names : List Str := ["thing", "item"]
abbrev p_are_names : List Str := ["thing"]
theorem sc_are_names : FnScope n_are_names p_are_names (defScope s_are_names) := ⟨rfl, rfl, rfl, by decide +kernel, rfl, by decide +kernel, by decide +kernel⟩
abbrev s_is_desk : Stmt := topS 18
abbrev n_is_desk : List Str := ["workers", "item", "name", "crew", "worker"]
abbrev p_is_desk : List Str := ["workers", "item"]
theorem sc_is_desk : FnScope n_is_desk p_is_desk (defScope s_is_desk) := ⟨rfl, rfl, rfl, by decide +kernel, rfl, by decide +kernel, by decide +kernel⟩
abbrev s_first_bad_desk : Stmt := topS 19
abbrev n_first_bad_desk : List Str := ["workers", "desks", "names", "at", "item"]
abbrev p_first_bad_desk : List Str := ["workers", "desks"]
theorem sc_first_bad_desk : FnScope n_first_bad_desk p_first_bad_desk (defScope s_first_bad_desk) := ⟨rfl, rfl, rfl, by decide +kernel, rfl, by decide +kernel, by decide +kernel⟩
abbrev s_Roster_init : Stmt := inClass (topS 20) 0
abbrev n_Roster_init : List Str := ["self", "workers", "desks", "at", "name", "crew"]
abbrev p_Roster_init : List Str := ["self", "workers", "desks"]
theorem sc_Roster_init : FnScope n_Roster_init p_Roster_init (defScope s_Roster_init) := ⟨rfl, rfl, rfl, by decide +kernel, rfl, by decide +kernel, by decide +kernel⟩
abbrev s_Roster_eq : Stmt := inClass (topS 20) 1
abbrev n_Roster_eq : List Str := ["self", "other"]
abbrev p_Roster_eq : List Str := ["self", "other"]
theorem sc_Roster_eq : FnScope n_Roster_eq p_Roster_eq (defScope s_Roster_eq) := ⟨rfl, rfl, rfl, by decide +kernel, rfl, by decide +kernel, by decide +kernel⟩
abbrev s_Roster_len : Stmt := inClass (topS 20) 2
abbrev n_Roster_len : List Str := ["self"]
abbrev p_Roster_len : List Str := ["self"]
theorem sc_Roster_len : FnScope n_Roster_len p_Roster_len (defScope s_Roster_len) := ⟨rfl, rfl, rfl, by decide +kernel, rfl, by decide +kernel, by decide +kernel⟩
abbrev s_Roster_workers : Stmt := inClass (topS 20) 3
abbrev n_Roster_workers : List Str := ["self"]
abbrev p_Roster_workers : List Str := ["self"]
theorem sc_Roster_workers : FnScope n_Roster_workers p_Roster_workers (defScope s_Roster_workers) := ⟨rfl, rfl, rfl, by decide +kernel, rfl, by decide +kernel, by decide +kernel⟩
abbrev s_Roster_desks : Stmt := inClass (topS 20) 4
abbrev n_Roster_desks : List Str := ["self"]
abbrev p_Roster_desks : List Str := ["self"]
theorem sc_Roster_desks : FnScope n_Roster_desks p_Roster_desks (defScope s_Roster_desks) := ⟨rfl, rfl, rfl, by decide +kernel, rfl, by decide +kernel, by decide +kernel⟩
abbrev s_Roster_crew : Stmt := inClass (topS 20) 5
abbrev n_Roster_crew : List Str := ["self", "desk"]
abbrev p_Roster_crew : List Str := ["self", "desk"]
theorem sc_Roster_crew : FnScope n_Roster_crew p_Roster_crew (defScope s_Roster_crew) := ⟨rfl, rfl, rfl, by decide +kernel, rfl, by decide +kernel, by decide +kernel⟩
abbrev s_law_bag : Stmt := topS 22
abbrev n_law_bag : List Str := ["script", "cell"]
abbrev p_law_bag : List Str := ["script"]
theorem sc_law_bag : FnScope n_law_bag p_law_bag (defScope s_law_bag) := ⟨rfl, rfl, rfl, by decide +kernel, rfl, by decide +kernel, by decide +kernel⟩
abbrev s_law_take : Stmt := topS 23
abbrev n_law_take : List Str := ["bag", "many", "cell", "value", "first", "second"]
abbrev p_law_take : List Str := ["bag", "many"]
theorem sc_law_take : FnScope n_law_take p_law_take (defScope s_law_take) := ⟨rfl, rfl, rfl, by decide +kernel, rfl, by decide +kernel, by decide +kernel⟩
abbrev s_law_alike : Stmt := topS 24
abbrev n_law_alike : List Str := ["found", "due"]
abbrev p_law_alike : List Str := ["found", "due"]
theorem sc_law_alike : FnScope n_law_alike p_law_alike (defScope s_law_alike) := ⟨rfl, rfl, rfl, by decide +kernel, rfl, by decide +kernel, by decide +kernel⟩
abbrev s_law_names : Stmt := topS 25
abbrev n_law_names : List Str := ["bag", "many", "letters", "words", "way", "turn", "size", "base", "at", "found", "k"]
abbrev p_law_names : List Str := ["bag", "many"]
theorem sc_law_names : FnScope n_law_names p_law_names (defScope s_law_names) := ⟨rfl, rfl, rfl, by decide +kernel, rfl, by decide +kernel, by decide +kernel⟩
abbrev s_law_mixed : Stmt := topS 26
abbrev n_law_mixed : List Str := ["bag", "some", "found", "one"]
abbrev p_law_mixed : List Str := ["bag", "some"]
theorem sc_law_mixed : FnScope n_law_mixed p_law_mixed (defScope s_law_mixed) := ⟨rfl, rfl, rfl, by decide +kernel, rfl, by decide +kernel, by decide +kernel⟩
abbrev s_law_crew : Stmt := topS 27
abbrev n_law_crew : List Str := ["bag", "workers", "way", "many", "at", "to", "found", "one"]
abbrev p_law_crew : List Str := ["bag", "workers", "way"]
theorem sc_law_crew : FnScope n_law_crew p_law_crew (defScope s_law_crew) := ⟨rfl, rfl, rfl, by decide +kernel, rfl, by decide +kernel, by decide +kernel⟩
abbrev s_law_parts : Stmt := topS 28
abbrev n_law_parts : List Str := ["bag", "most", "desks", "many", "workers", "names", "style", "found", "k", "name", "way", "crew"]
abbrev p_law_parts : List Str := ["bag", "most", "desks"]
theorem sc_law_parts : FnScope n_law_parts p_law_parts (defScope s_law_parts) := ⟨rfl, rfl, rfl, by decide +kernel, rfl, by decide +kernel, by decide +kernel⟩
abbrev s_law_roster : Stmt := topS 29
abbrev n_law_roster : List Str := ["parts", "name", "crew"]
abbrev p_law_roster : List Str := ["parts"]
theorem sc_law_roster : FnScope n_law_roster p_law_roster (defScope s_law_roster) := ⟨rfl, rfl, rfl, by decide +kernel, rfl, by decide +kernel, by decide +kernel⟩
abbrev s_law_order : Stmt := topS 30
abbrev n_law_order : List Str := ["parts", "line", "desk", "crew", "one"]
abbrev p_law_order : List Str := ["parts", "line", "desk"]
theorem sc_law_order : FnScope n_law_order p_law_order (defScope s_law_order) := ⟨rfl, rfl, rfl, by decide +kernel, rfl, by decide +kernel, by decide +kernel⟩
abbrev s_law_parting : Stmt := topS 31
abbrev n_law_parting : List Str := ["parts", "line", "other", "bound", "best", "desk", "one", "two", "places", "name", "crew", "k"]
abbrev p_law_parting : List Str := ["parts", "line", "other", "bound"]
theorem sc_law_parting : FnScope n_law_parting p_law_parting (defScope s_law_parting) := ⟨rfl, rfl, rfl, by decide +kernel, rfl, by decide +kernel, by decide +kernel⟩
abbrev s_law_near_line : Stmt := topS 32
abbrev n_law_near_line : List Str := ["bag", "line", "found", "k", "at", "to", "worker"]
abbrev p_law_near_line : List Str := ["bag", "line"]
theorem sc_law_near_line : FnScope n_law_near_line p_law_near_line (defScope s_law_near_line) := ⟨rfl, rfl, rfl, by decide +kernel, rfl, by decide +kernel, by decide +kernel⟩
abbrev s_law_same : Stmt := topS 33
abbrev n_law_same : List Str := ["bag", "parts", "line", "other", "many", "one", "two", "k", "worker", "crew", "servers_of", "w", "some"]
abbrev p_law_same : List Str := ["bag", "parts", "line", "other", "many"]
theorem sc_law_same : FnScope n_law_same p_law_same (defScope s_law_same) := ⟨rfl, rfl, rfl, by decide +kernel, rfl, by decide +kernel, by decide +kernel⟩
abbrev s_law : Stmt := topS 34
abbrev n_law : List Str := ["script", "bag", "turn", "most", "desks", "parts", "line", "other", "roster", "bound", "found", "many", "crew", "firsts", "worker", "some"]
abbrev p_law : List Str := ["script"]
theorem sc_law : FnScope n_law p_law (defScope s_law) := ⟨rfl, rfl, rfl, by decide +kernel, rfl, by decide +kernel, by decide +kernel⟩
structure Tx (K : PySem.W.Frag) (mg : Str → Option Value) where
  a_ordered : Addr
  d_ordered : FuncData
  f_ordered : Fun K "_ordered" "_ordered" s_ordered a_ordered d_ordered
  b_ordered : L2.Binds K d_ordered p_ordered []
  g_ordered : mg "_ordered" = some (.ref a_ordered)
  k_ordered : PySem.W.keepIn K (.ref a_ordered) = true
  a_first_difference : Addr
  d_first_difference : FuncData
  f_first_difference : Fun K "_first_difference" "_first_difference" s_first_difference a_first_difference d_first_difference
  b_first_difference : L2.Binds K d_first_difference p_first_difference []
  g_first_difference : mg "_first_difference" = some (.ref a_first_difference)
  k_first_difference : PySem.W.keepIn K (.ref a_first_difference) = true
  a_compare : Addr
  d_compare : FuncData
  f_compare : Fun K "compare" "compare" s_compare a_compare d_compare
  b_compare : L2.Binds K d_compare p_compare []
  g_compare : mg "compare" = some (.ref a_compare)
  k_compare : PySem.W.keepIn K (.ref a_compare) = true
  a_is_name : Addr
  d_is_name : FuncData
  f_is_name : Fun K "is_name" "is_name" s_is_name a_is_name d_is_name
  b_is_name : L2.Binds K d_is_name p_is_name []
  g_is_name : mg "is_name" = some (.ref a_is_name)
  k_is_name : PySem.W.keepIn K (.ref a_is_name) = true
  a_are_names : Addr
  d_are_names : FuncData
  f_are_names : Fun K "are_names" "are_names" s_are_names a_are_names d_are_names
  b_are_names : L2.Binds K d_are_names p_are_names []
  g_are_names : mg "are_names" = some (.ref a_are_names)
  k_are_names : PySem.W.keepIn K (.ref a_are_names) = true
  a_is_desk : Addr
  d_is_desk : FuncData
  f_is_desk : Fun K "_is_desk" "_is_desk" s_is_desk a_is_desk d_is_desk
  b_is_desk : L2.Binds K d_is_desk p_is_desk []
  g_is_desk : mg "_is_desk" = some (.ref a_is_desk)
  k_is_desk : PySem.W.keepIn K (.ref a_is_desk) = true
  a_first_bad_desk : Addr
  d_first_bad_desk : FuncData
  f_first_bad_desk : Fun K "_first_bad_desk" "_first_bad_desk" s_first_bad_desk a_first_bad_desk d_first_bad_desk
  b_first_bad_desk : L2.Binds K d_first_bad_desk p_first_bad_desk []
  g_first_bad_desk : mg "_first_bad_desk" = some (.ref a_first_bad_desk)
  k_first_bad_desk : PySem.W.keepIn K (.ref a_first_bad_desk) = true
  a_Roster_init : Addr
  d_Roster_init : FuncData
  f_Roster_init : Fun K "__init__" "Roster.__init__" s_Roster_init a_Roster_init d_Roster_init
  b_Roster_init : L2.Binds K d_Roster_init p_Roster_init []
  a_Roster_eq : Addr
  d_Roster_eq : FuncData
  f_Roster_eq : Fun K "__eq__" "Roster.__eq__" s_Roster_eq a_Roster_eq d_Roster_eq
  b_Roster_eq : L2.Binds K d_Roster_eq p_Roster_eq []
  a_Roster_len : Addr
  d_Roster_len : FuncData
  f_Roster_len : Fun K "__len__" "Roster.__len__" s_Roster_len a_Roster_len d_Roster_len
  b_Roster_len : L2.Binds K d_Roster_len p_Roster_len []
  a_Roster_workers : Addr
  d_Roster_workers : FuncData
  f_Roster_workers : Fun K "workers" "Roster.workers" s_Roster_workers a_Roster_workers d_Roster_workers
  b_Roster_workers : L2.Binds K d_Roster_workers p_Roster_workers []
  a_Roster_desks : Addr
  d_Roster_desks : FuncData
  f_Roster_desks : Fun K "desks" "Roster.desks" s_Roster_desks a_Roster_desks d_Roster_desks
  b_Roster_desks : L2.Binds K d_Roster_desks p_Roster_desks []
  a_Roster_crew : Addr
  d_Roster_crew : FuncData
  f_Roster_crew : Fun K "crew" "Roster.crew" s_Roster_crew a_Roster_crew d_Roster_crew
  b_Roster_crew : L2.Binds K d_Roster_crew p_Roster_crew []
  a_law_bag : Addr
  d_law_bag : FuncData
  f_law_bag : Fun K "_law_bag" "_law_bag" s_law_bag a_law_bag d_law_bag
  b_law_bag : L2.Binds K d_law_bag p_law_bag []
  g_law_bag : mg "_law_bag" = some (.ref a_law_bag)
  k_law_bag : PySem.W.keepIn K (.ref a_law_bag) = true
  a_law_take : Addr
  d_law_take : FuncData
  f_law_take : Fun K "_law_take" "_law_take" s_law_take a_law_take d_law_take
  b_law_take : L2.Binds K d_law_take p_law_take []
  g_law_take : mg "_law_take" = some (.ref a_law_take)
  k_law_take : PySem.W.keepIn K (.ref a_law_take) = true
  a_law_alike : Addr
  d_law_alike : FuncData
  f_law_alike : Fun K "_law_alike" "_law_alike" s_law_alike a_law_alike d_law_alike
  b_law_alike : L2.Binds K d_law_alike p_law_alike []
  g_law_alike : mg "_law_alike" = some (.ref a_law_alike)
  k_law_alike : PySem.W.keepIn K (.ref a_law_alike) = true
  a_law_names : Addr
  d_law_names : FuncData
  f_law_names : Fun K "_law_names" "_law_names" s_law_names a_law_names d_law_names
  b_law_names : L2.Binds K d_law_names p_law_names []
  g_law_names : mg "_law_names" = some (.ref a_law_names)
  k_law_names : PySem.W.keepIn K (.ref a_law_names) = true
  a_law_mixed : Addr
  d_law_mixed : FuncData
  f_law_mixed : Fun K "_law_mixed" "_law_mixed" s_law_mixed a_law_mixed d_law_mixed
  b_law_mixed : L2.Binds K d_law_mixed p_law_mixed []
  g_law_mixed : mg "_law_mixed" = some (.ref a_law_mixed)
  k_law_mixed : PySem.W.keepIn K (.ref a_law_mixed) = true
  a_law_crew : Addr
  d_law_crew : FuncData
  f_law_crew : Fun K "_law_crew" "_law_crew" s_law_crew a_law_crew d_law_crew
  b_law_crew : L2.Binds K d_law_crew p_law_crew []
  g_law_crew : mg "_law_crew" = some (.ref a_law_crew)
  k_law_crew : PySem.W.keepIn K (.ref a_law_crew) = true
  a_law_parts : Addr
  d_law_parts : FuncData
  f_law_parts : Fun K "_law_parts" "_law_parts" s_law_parts a_law_parts d_law_parts
  b_law_parts : L2.Binds K d_law_parts p_law_parts []
  g_law_parts : mg "_law_parts" = some (.ref a_law_parts)
  k_law_parts : PySem.W.keepIn K (.ref a_law_parts) = true
  a_law_roster : Addr
  d_law_roster : FuncData
  f_law_roster : Fun K "_law_roster" "_law_roster" s_law_roster a_law_roster d_law_roster
  b_law_roster : L2.Binds K d_law_roster p_law_roster []
  g_law_roster : mg "_law_roster" = some (.ref a_law_roster)
  k_law_roster : PySem.W.keepIn K (.ref a_law_roster) = true
  a_law_order : Addr
  d_law_order : FuncData
  f_law_order : Fun K "_law_order" "_law_order" s_law_order a_law_order d_law_order
  b_law_order : L2.Binds K d_law_order p_law_order []
  g_law_order : mg "_law_order" = some (.ref a_law_order)
  k_law_order : PySem.W.keepIn K (.ref a_law_order) = true
  a_law_parting : Addr
  d_law_parting : FuncData
  f_law_parting : Fun K "_law_parting" "_law_parting" s_law_parting a_law_parting d_law_parting
  b_law_parting : L2.Binds K d_law_parting p_law_parting []
  g_law_parting : mg "_law_parting" = some (.ref a_law_parting)
  k_law_parting : PySem.W.keepIn K (.ref a_law_parting) = true
  a_law_near_line : Addr
  d_law_near_line : FuncData
  f_law_near_line : Fun K "_law_near_line" "_law_near_line" s_law_near_line a_law_near_line d_law_near_line
  b_law_near_line : L2.Binds K d_law_near_line p_law_near_line []
  g_law_near_line : mg "_law_near_line" = some (.ref a_law_near_line)
  k_law_near_line : PySem.W.keepIn K (.ref a_law_near_line) = true
  a_law_same : Addr
  d_law_same : FuncData
  f_law_same : Fun K "_law_same" "_law_same" s_law_same a_law_same d_law_same
  b_law_same : L2.Binds K d_law_same p_law_same []
  g_law_same : mg "_law_same" = some (.ref a_law_same)
  k_law_same : PySem.W.keepIn K (.ref a_law_same) = true
  a_law : Addr
  d_law : FuncData
  f_law : Fun K "law" "law" s_law a_law d_law
  b_law : L2.Binds K d_law p_law []
  g_law : mg "law" = some (.ref a_law)
  k_law : PySem.W.keepIn K (.ref a_law) = true
  c_Roster : Addr
  gc_Roster : mg "Roster" = some (.ref c_Roster)
  cl_Roster : Cls K c_Roster
  mk_Roster : Mk K c_Roster a_Roster_init
  nf_Roster__workers : NoAttr K c_Roster "_workers"
  nf_Roster__crews : NoAttr K c_Roster "_crews"
  m_Roster_eq : Meth K c_Roster "__eq__" a_Roster_eq
  m_Roster_len : Meth K c_Roster "__len__" a_Roster_len
  m_Roster_workers : Meth K c_Roster "workers" a_Roster_workers
  m_Roster_desks : Meth K c_Roster "desks" a_Roster_desks
  m_Roster_crew : Meth K c_Roster "crew" a_Roster_crew
  z_ValueError : mg "ValueError" = none
  z_abs : mg "abs" = none
  z_all : mg "all" = none
  z_dict : mg "dict" = none
  z_enumerate : mg "enumerate" = none
  z_int : mg "int" = none
  z_isinstance : mg "isinstance" = none
  z_len : mg "len" = none
  z_list : mg "list" = none
  z_max : mg "max" = none
  z_min : mg "min" = none
  z_range : mg "range" = none
  z_repr : mg "repr" = none
  z_set : mg "set" = none
  z_sorted : mg "sorted" = none
  z_str : mg "str" = none
  z_tuple : mg "tuple" = none
  z_zip : mg "zip" = none
  gk_LETTERS : {t : Tok // mg "LETTERS" = some (.str "abcdefghijklmnopqrstuvwxyz" t)}
  gk_LONGEST_NAME : {t : Tok // mg "LONGEST_NAME" = some (.int 8 t)}
  gk_MOST_WORKERS : {t : Tok // mg "MOST_WORKERS" = some (.int 40 t)}
  gk_MOST_DESKS : {t : Tok // mg "MOST_DESKS" = some (.int 60 t)}
section
variable {P : Program} {w : World} {K : PySem.W.Frag} {mg : Str → Option Value} {base : Heap}
def spTake : Sp := SpF (b1 (α := Int)) (fun m => 1 ≤ m ∧ m ≤ 10 ^ 41) (fun m (r : Int) => 0 ≤ r ∧ r < m)
theorem ok_law_take (T : Tx K mg) : FnG P w K mg base CX0 1 T.a_law_take T.d_law_take p_law_take spTake := by
  refine okN T.f_law_take sc_law_take (fun vs H Q E h => ?_) (fun cdv A outer s H vs Q E gd hr h => ?_)
  · obtain ⟨B, O, G, m, s, ⟨b, v, rfl, rfl, rv⟩, hm, k⟩ := h
    rfl
  · obtain ⟨B, O, G, m, s, ⟨b, v, rfl, rfl, rv⟩, hm, k⟩ := h
    cases rv
    have nd := sc_law_take.nd
    have hu := hu_of hr
    refine ⟨_, (pss_cons (ps_if (pt_cmpR (eqQ (K := K) rfl hr.units) (pe_ix (ixQ (K := K) rfl) (pv 0) pe_int (fun _ _ => rfl)) pe_int (nomark _)) (pss_cons (ps_set (i := 2) nd rfl (Or.inl rfl) pe_int)
      (pss_cons (ps_if (pt_cmpR op_lt (pe_ix (ixQ (K := K) rfl) (pv 0) pe_int (fun _ _ => rfl)) (pe_callB (lenQ (K := K) rfl) (by rfl) T.z_len (by decide +kernel) (pa_cons (pe_ix (ixQ (K := K) rfl) (pv 0) pe_int (fun _ _ => rfl)) pa_nil)) (nomark _)) (pss_one (ps_set (i := 2) nd rfl (Or.inl rfl) (pe_ix (ixQ (K := K) rfl) (pe_ix (ixQ (K := K) rfl) (pv 0) pe_int (fun _ _ => rfl)) (pe_ix (ixQ (K := K) rfl) (pv 0) pe_int (fun _ _ => rfl)) (fun _ _ => rfl))))
      pss_nil)
      (pss_cons (ps_augS (pv 0) pe_int pg_item pe_int ip_add set_list)
      (pss_cons (ps_if (pt_cmpR op_ge (pv 2) pe_int (nomark _)) (pss_one (ps_asg (pv 2) (pg_sub (pv 0) pe_int set_list)))
      pss_nil)
      (pss_one (ps_asg (pe_op op_mod (pe_op op_plus (pe_op op_plus (pe_op op_times (pe_ix (ixQ (K := K) rfl) (pv 0) pe_int (fun _ _ => rfl)) pe_int) (pe_op op_mod (pv 2) pe_int)) (pe_op op_times pe_int (pe_ix (ixQ (K := K) rfl) (pv 0) pe_int (fun _ _ => rfl)))) pe_int) (pg_sub (pv 0) pe_int set_list)))))))
      pss_nil)
      (pss_cons (ps_if (pt_cmpR op_gt (pe_ix (ixQ (K := K) rfl) (pv 0) pe_int (fun _ _ => rfl)) pe_int (nomark _)) (pss_cons (ps_set (i := 3) nd rfl (Or.inl rfl) (pe_op op_mod (pe_ix (ixQ (K := K) rfl) (pv 0) pe_int (fun _ _ => rfl)) (pv 1)))
      (pss_cons (ps_asg (pe_op op_fdivW (pe_ix (ixQ (K := K) rfl) (pv 0) pe_int (fun _ _ => rfl)) (pv 1)) (pg_sub (pv 0) pe_int set_list))
      (pss_one (ps_ret (pv 3)))))
      pss_nil)
      (pss_cons (ps_set (i := 4) nd rfl (Or.inl rfl) (pe_op op_mod (pe_op op_times (pe_op op_plus (pe_ix (ixQ (K := K) rfl) (pv 0) pe_int (fun _ _ => rfl)) pe_int) pe_int) pe_int))
      (pss_cons (ps_set (i := 5) nd rfl (Or.inl rfl) (pe_op op_mod (pe_op op_times (pe_op op_mod (pe_op op_times (pv 4) (pv 4)) pe_int) pe_int) pe_int))
      (pss_cons (ps_if (pt_cmpR op_gt (pv 1) pe_int (nomark _)) (pss_one (ps_ret (pe_op op_mod (pe_op op_plus (pe_op op_times (pv 5) pe_int) (pv 4)) (pv 1))))
      pss_nil)
      (pss_one (ps_ret (pe_op op_mod (pe_op op_fdivW (pv 5) pe_int) (pv 1))))))))), ?_⟩
    obtain ⟨gb, z0, z1, z2, c, cells, hH, hz2, hc⟩ := (s.bag b rfl).1
    have hcH : H c = some (.lst (cells.map V.int)) := s.ex c _ hc
    have ncb : c ≠ b := ne_of_none hc gb
    have small : ∀ x : Int, CDivW x m := fun x => wide_div (b := 200) (by omega) (Nat.lt_of_le_of_lt (by omega : m.natAbs ≤ 10 ^ 41) (by decide)) (by decide) (by decide)
    refine with_tail (fun σ' H' => ∃ y0 y1 y2 x, σ' = [some (.ref b), some (.int m), x, none, none, none] ∧ H' b = some (.lst [.int y0, .int y1, .int y2, .ref c]) ∧ 0 ≤ y2 ∧ Sx (some b) O G H') (fun tail => ?_) ?_
    · -- if bag[0] == 0: ..
      refine at_qif (at_op (at_op (at_var rfl) at_c (ra_ix (j := 0) hH rfl)) at_c ra_eqI) (fun h0 => ?_) (fun _ => tail _ _ ⟨z0, z1, z2, none, rfl, hH, hz2, s⟩)
      refine at_set at_c ?_
      refine with_tail (fun σ' H' => H = H' ∧ ∃ x : Int, σ' = [some (.ref b), some (.int m), some (.int x), none, none, none]) (fun tail2 => ?_) ?_
      · refine at_qif (b := decide (z2 < ((cells.map V.int).length : Int))) (at_op (at_op (at_var rfl) at_c (ra_ix (j := 2) hH rfl)) (at_len (at_op (at_var rfl) at_c (ra_ix (j := 3) hH rfl)) hcH) ra_I0) (fun h1 => ?_) (fun _ => tail2 _ _ ⟨rfl, 0, rfl⟩)
        have h2 : z2.toNat < cells.length := by
          have := of_decide_eq_true h1
          rw [List.length_map] at this
          omega
        have e2 : z2 = (z2.toNat : Int) := by omega
        refine at_set1 (at_op (at_op (at_var rfl) at_c (ra_ix (j := 3) hH rfl)) (at_op (at_var rfl) at_c (ra_ix (j := 2) hH rfl)) (z := .int cells[z2.toNat]) (fun Q q => ?_)) (tail2 _ _ ⟨rfl, _, rfl⟩)
        rw [e2]
        exact ra_ix hcH (by rw [List.getElem?_map, List.getElem?_eq_getElem h2]; rfl) Q q
      · rintro σ' H' ⟨rfl, x, rfl⟩
        -- bag[2] += 1
        refine at_qaugS (at_var rfl) (j := 2) at_c hH rfl at_c ?_
        have s1 : Sx (some b) O G (upd H b (.lst [.int z0, .int z1, .int (z2 + 1), .ref c])) := s.bagPut (by omega) hc
        refine with_tail (fun σ' H' => σ' = [some (.ref b), some (.int m), some (.int x), none, none, none] ∧ ∃ y0, H' b = some (.lst [.int y0, .int z1, .int (z2 + 1), .ref c]) ∧ Sx (some b) O G H') (fun tail3 => ?_) ?_
        · refine at_qif (at_op (at_var rfl) at_c ra_I0) (fun _ => ?_) (fun _ => tail3 _ _ ⟨rfl, z0, upd_same, s1⟩)
          exact at_put (at_var rfl) (at_var rfl) (j := 0) at_c upd_same (by simp) (tail3 _ _ ⟨rfl, x, upd_same, s1.bagPut (z0 := x) (by omega) hc⟩)
        · rintro σ' H' ⟨rfl, y0, hH', s'⟩
          refine at_put (at_op (at_op (at_op (at_op (at_op (at_var rfl) at_c (ra_ix (j := 1) hH' rfl)) at_c (ra_mul (.inr ⟨by decide, by decide⟩))) (at_op (at_var rfl) at_c (ra_mod (by decide))) ra_add)
            (at_op at_c (at_op (at_var rfl) at_c (ra_ix (j := 2) hH' rfl)) (ra_mul (.inl ⟨by decide, by decide⟩))) ra_add) at_c (ra_mod (by decide))) (at_var rfl) (j := 1) at_c hH' (by simp) ?_
          exact tail _ _ ⟨y0, _, z2 + 1, _, rfl, upd_same, by omega, s'.bagPut (by omega) hc⟩
    · rintro σ' H' ⟨y0, y1, y2, x, rfl, hH', hy, s'⟩
      have lt_m : ∀ a : Int, 0 ≤ a % m ∧ a % m < m := fun a => ⟨Int.emod_nonneg a (by omega), Int.emod_lt_of_pos a (by omega)⟩
      refine at_qif (at_op (at_op (at_var rfl) at_c (ra_ix (j := 0) hH' rfl)) at_c ra_I0) (fun h0 => ?_) (fun _ => ?_)
      · refine at_set (at_op (at_op (at_var rfl) at_c (ra_ix (j := 0) hH' rfl)) (at_var rfl) (ra_mod (by omega))) ?_
        refine at_qput (at_op (at_op (at_var rfl) at_c (ra_ix (j := 0) hH' rfl)) (at_var rfl) (ra_I (small _))) (at_var rfl) (j := 0) at_c hH' (by simp) ?_
        exact at_ret (at_var rfl) (k _ (y0 % m) G _ (lt_m y0) Ex.r (s'.bagPut hy hc) rfl)
      · have f1 : ∀ a : Int, -(2 ^ 64) < a % 1000000007 ∧ a % 1000000007 < 2 ^ 64 := fun a => by omega
        have f2 : ∀ a : Int, -(2 ^ 64) < a % 998244353 ∧ a % 998244353 < 2 ^ 64 := fun a => by omega
        refine at_set (at_op (at_op (at_op (at_op (at_var rfl) at_c (ra_ix (j := 1) hH' rfl)) at_c ra_add) at_c (ra_mul (.inr ⟨by decide, by decide⟩))) at_c (ra_mod (by decide))) ?_
        refine at_set (at_op (at_op (at_op (at_op (at_var rfl) (at_var rfl) (ra_mul (.inl (f1 _)))) at_c (ra_mod (by decide))) at_c (ra_mul (.inr ⟨by decide, by decide⟩))) at_c (ra_mod (by decide))) ?_
        refine at_qif (at_op (at_var rfl) at_c ra_I0) (fun _ => ?_) (fun _ => ?_)
        · exact at_ret (at_op (at_op (at_op (at_var rfl) at_c (ra_mul (.inl (f2 _)))) (at_var rfl) ra_add) (at_var rfl) (ra_mod (by omega))) (k _ _ G _ (lt_m _) Ex.r s' rfl)
        · exact at_ret (at_op (at_op (at_var rfl) at_c (ra_I (wide_div (b := 10) (by decide) (by decide) (by decide) (by decide)))) (at_var rfl) (ra_mod (by omega))) (k _ _ G _ (lt_m _) Ex.r s' rfl)
end
end My

set_option Elab.async false
set_option linter.all false
set_option maxRecDepth 100000
set_option maxHeartbeats 4000000
namespace My
open PySem PySem.Spec PyProof.Rows L2 Dk
open Evl (Ex)
open Dk.Py (rp)
open Dk.PyD (pic)
section
variable {P : Program} {w : World} {K : PySem.W.Frag} {mg : Str → Option Value} {base : Heap}
/-! ### the bag -/
def spBag (K : PySem.W.Frag) : Sp := fun vs H Q _ => ∃ (a : Addr) (ns : List Int) (O : List (Addr × HO)) (G : Hp), vs = [.ref a] ∧ Sx none O G H ∧ SqL K G a (ns.map V.int) ∧ ns.length ≤ 63 ∧
  ∀ b G' H', Ex G G' → Sx (some b) O G' H' → Q (.ref b) H'
theorem giveBag {O : List (Addr × HO)} {G H : Hp} {b c : Addr} {z0 z1 z2 : Int} {cells : List Int} (s : Sx none ((b, .lst [.int z0, .int z1, .int z2, .ref c]) :: O) G H) (hz : 0 ≤ z2) (hc : G c = some (.lst (cells.map V.int))) : Sx (some b) O G H :=
  ⟨s.ex, s.drop.own, s.drop.nd, fun b' e => by
    cases e
    exact ⟨⟨s.head.2, z0, z1, z2, c, cells, s.head.1, hz, hc⟩, fun q => by
      obtain ⟨x, hx, e⟩ := List.mem_map.mp q
      exact s.tailNe hx e⟩⟩
theorem ok_law_bag (T : Tx K mg) : FnG P w K mg base CX0 1 T.a_law_bag T.d_law_bag p_law_bag (spBag K) := by
  refine okN T.f_law_bag sc_law_bag (fun vs H Q E h => ?_) (fun cdv A outer s H vs Q E gd hr h => ?_)
  · obtain ⟨a, ns, O, G, rfl, _⟩ := h
    rfl
  · obtain ⟨a, ns, O, G, rfl, s, hS, hl, k⟩ := h
    have nd := sc_law_bag.nd
    refine ⟨_, (pss_one (ps_ret (pe_lst (pa_cons pe_int (pa_cons pe_int (pa_cons pe_int (pa_cons (pe_lc (own := [("cell", 1)]) (by rfl) nd (pi_list (pe_slice (slQ (K := K) rfl) (pv 0) po_none (po_some pe_int))) (blkOk_by (own := [("cell", 1)]) (N := n_law_bag) (sc := defScope s_law_bag) (by decide +kernel)) (fun _ _ _ _ _ => (pg_name (i := 1) nd rfl (Or.inl rfl))) (fun _ _ _ _ _ => pts_nil) (fun _ _ _ _ _ => (pe_callB cr_abs (by rfl) T.z_abs (by decide +kernel) (pa_cons (pv 1) pa_nil)))) pa_nil))))))), ?_⟩
    have cut : EvM none O (tSl (rCut K) (tVar 0) tNoPart (tPart (tC (.int 63)))) [some (.ref a), none] G (cutL ns none (some 63)) := fun G1 H1 e s Q q =>
      ⟨_, rfl, 63, rfl, .inl ⟨a, ns.map V.int, rfl, Evl.ex_l (Ex.t e s.ex) hS, fun l hl => q l _ _ G1 _ rfl Ex.r (s.mine hl) (by
        unfold cutV cutL
        rw [List.length_map]
        exact all2_take _ (all2_drop _ (all2_of_ints ns)))⟩⟩
    have lc : EvP (α := List Int) none O (tLc (iList K (tSl (rCut K) (tVar 0) tNoPart (tPart (tC (.int 63))))) (gName 1) tYes (tCB rAbs (tCons (tVar 1) tNil)) [1]) [some (.ref a), none] G (fun _ => True) :=
      ((en_lc (fun _ => true) (fun (x : Int) (y : Int) => y = if x < 0 then -x else x) cut.still (fun xs e => by
        subst e
        unfold cutL
        rw [List.length_take, List.length_drop]
        omega) (fun xs x v G2 H2 O2 Q _ _ _ _ rx k => g_name (k _ rfl et_yes fun _ => ev_abs (ev_var rfl rx)))).imp fun _ _ => trivial).still
    simp only [tRet, tLst, tCons, tC, tNil]
    refine lc G H Ex.r s _ fun v xs G2 H2 _ e2 s2 ⟨c, vs, ev, hc, ra⟩ => ?_
    subst ev
    rw [all2_ints ra] at hc
    exact ⟨line_le (by show 4 ≤ 1000000; decide), fun l hl => k l G2 _ e2 (giveBag (s2.mine hl) (by decide) hc)⟩
/-! ### alike -/
def spAlike : Sp := fun vs H Q _ => ∃ (α : Type) (_ : DecidableEq α) (_ : PyD α) (B : Option Addr) (O : List (Addr × HO)) (G : Hp) (v u : V) (a b : α), vs = [v, u] ∧ Sx B O G H ∧ rp G v a ∧ rp G u b ∧ PyD.ok a ∧ PyD.ok b ∧ PyD.okr a ∧ PyD.size a ≤ 1000000 ∧ PyD.deep α ≤ 40 ∧
  ∀ G' H', Ex G G' → Sx B O G' H' → Q (.bl (decide (a = b))) H'
theorem ok_law_alike (T : Tx K mg) : FnG P w K mg base CX0 1 T.a_law_alike T.d_law_alike p_law_alike spAlike := by
  refine okN T.f_law_alike sc_law_alike (fun vs H Q E h => ?_) (fun cdv A outer s H vs Q E gd hr h => ?_)
  · obtain ⟨α, i1, i2, B, O, G, v, u, a, b, rfl, _⟩ := h
    rfl
  · obtain ⟨α, i1, i2, B, O, G, v, u, a, b, rfl, s, rv, ru, oa, ob, ra, za, hd, k⟩ := h
    have nd := sc_law_alike.nd
    refine ⟨_, (pss_one (ps_ret (pe_and (pe_cmpR (eqQ (K := K) rfl hr.units) (pv 0) (pv 1) (nomark _)) (pe_one (pe_cmpR (eqQ (K := K) rfl hr.units) (pe_callB (reprQ (K := K) rfl gd hr.units) (by rfl) T.z_repr (by decide +kernel) (pa_cons (pv 0) pa_nil)) (pe_callB (reprQ (K := K) rfl gd hr.units) (by rfl) T.z_repr (by decide +kernel) (pa_cons (pv 1) pa_nil)) (nomark _)))))), ?_⟩
    have va : ∀ {G'}, Ex G G' → EvD B O (tVar 0) [some v, some u] G' a := fun e => ev_var rfl (Py.up e rv)
    have vb : ∀ {G'}, Ex G G' → EvD B O (tVar 1) [some v, some u] G' b := fun e => ev_var rfl (Py.up e ru)
    refine s_ret (P := fun r => r = (decide (a = b))) (EvP.is (ev_andV (ev_op (va Ex.r) (vb Ex.r) (o2_eq oa ob hd)) (b := true) fun e => ?_) (by rw [Bool.and_true])) s ?_
    · have e' : a = b := of_decide_eq_true e
      subst e'
      exact EvP.is (ev_op (ev_repr (va Ex.r) ra za hd) (ev_repr (vb Ex.r) ra za hd) o2_eqS) (decide_eq_true rfl)
    · intro v r G2 H2 e e2 s2 rv2
      subst e
      cases rv2
      exact k G2 H2 e2 s2
/-! ### mixed -/
def spMixed : Sp := fun vs H Q _ => ∃ (α : Type) (_ : Py α) (b : Addr) (O : List (Addr × HO)) (G : Hp) (v : V) (xs : List α), vs = [.ref b, v] ∧ Sx (some b) O G H ∧ rp G v xs ∧ xs.length ≤ 1000 ∧
  ∀ p ws ys G' H', ys.Perm xs → Ex G G' → Sx (some b) ((p, .lst ws) :: O) G' H' → All2 G' ws ys → Q (.ref p) H'
theorem ok_law_mixed (T : Tx K mg) : FnG P w K mg base CX0 2 T.a_law_mixed T.d_law_mixed p_law_mixed spMixed := by
  refine okN T.f_law_mixed sc_law_mixed (fun vs H Q E h => ?_) (fun cdv A outer s H vs Q E gd hr h => ?_)
  · obtain ⟨α, i, b, O, G, v, xs, rfl, _⟩ := h
    rfl
  · obtain ⟨α, i, b, O, G, v, xs, rfl, s, rv, hl, k⟩ := h
    have nd := sc_law_mixed.nd
    refine ⟨_, (pss_cons (ps_set (i := 2) nd rfl (Or.inl rfl) (pe_lst pa_nil))
      (pss_cons (ps_for PassesOwn.never rfl (pi_list (pv 1)) (pg_name (i := 3) nd rfl (Or.inl rfl))
      (pss_one (ps_expr (pe_bm PySem.F.plainAttrs_list PySem.F.slot_list_insert PySem.F.type_list_insert m_insert (pv 2) (pa_cons (pe_callG (ok_law_take T) gd (hr.mono (by decide)) (by rfl) T.g_law_take T.k_law_take T.b_law_take pass0 (pa_cons (pv 0) (pa_cons (pe_op op_plus (pe_callB (lenQ (K := K) rfl) (by rfl) T.z_len (by decide +kernel) (pa_cons (pv 2) pa_nil)) pe_int) pa_nil))) (pa_cons (pv 3) pa_nil))))))
      (pss_one (ps_ret (pv 2))))), ?_⟩
    refine q_setN (en_lstD (α := α) el_nil (by simp)) s fun l ls zs G1 H1 e e1 s1 r1 => ?_
    subst e
    cases r1
    refine q_forL (α := α) (P := fun r => r = xs) (ev_var rfl (Py.up e1 rv)) s1 (fun xs i σ' G' O' => ∃ x ls ys, σ' = [some (.ref b), some v, some (.ref l), x] ∧ O' = (l, .lst ls) :: O ∧ All2 G' ls ys ∧ ys.Perm (xs.take i))
      (fun xs G2 e e2 => ⟨none, [], [], rfl, rfl, .nil, .refl _⟩) ?_ ?_
    · rintro xs' G2 i x u σ' G' H' O' rfl e2 hx e3 s' ru ⟨x', ls, ys, rfl, rfl, ra, pm⟩
      have ylen : ls.length ≤ 1000 := by
        rw [all2_len ra, pm.length_eq, List.length_take]
        omega
      refine s_insert rfl (P := fun j => 0 ≤ j ∧ j < (ls.length : Int) + 1) (R := fun r => r = x) (ev_call (A := Int) (a := (ls.length : Int) + 1) (eb_1 rfl (EvP.is (ev_op (ev_lenOwn (List.mem_cons_self ..) rfl) ev_int o2_addI) rfl)) ⟨by omega, by omega⟩) (ev_var rfl ru) (fun j hj => ⟨hj.1, by omega⟩) s' (by omega) ?_
      rintro j v2 a G3 H3 hj rfl e4 s3 rv2
      have ra3 := all2_up e4 ra
      refine ⟨G3, _, Ex.t e3 e4, s3, some u, _, ys.take j.toNat ++ [a] ++ ys.drop j.toNat, rfl, rfl, all2_app (all2_app (all2_take _ ra3) (all2_one rv2)) (all2_drop _ ra3), ?_⟩
      rw [take_snoc hx]
      refine List.Perm.trans ?_ (List.Perm.append_right [a] pm)
      rw [List.append_assoc]
      refine List.Perm.trans (List.Perm.append_left _ List.perm_append_comm) ?_
      rw [← List.append_assoc, List.take_append_drop]
    · rintro xs' σ' G' H' O' rfl e2 s' ⟨x', ls, ys, rfl, rfl, ra, pm⟩
      rw [List.take_length] at pm
      exact s_retOwn rfl (k l ls ys G' H' pm (Ex.t e1 e2) s' ra)
theorem en_mixed {α : Type} [Py α] {b : Addr} {O : List (Addr × HO)} {te : TE} {σ : L2.St} {G : Hp} {i : Nat} {R : List α → Prop} {E : XK} (hv : σ[i]? = some (some (.ref b))) (h : EvP (some b) O te σ G R) (hl : ∀ xs, R xs → xs.length ≤ 1000) :
    EvN (some b) O (tCall spMixed [] E (tCons (tVar i) (tCons te tNil))) σ G fun ys => ∃ xs, R xs ∧ ys.Perm xs := fun G1 H1 e s Q q =>
  ⟨_, hv, h G1 H1 e s _ fun v xs G2 H2 p e2 s2 r => ⟨α, _, b, O, G2, v, xs, rfl, s2, r, hl xs p, fun l ws ys G3 H3 pm e3 s3 ra => q l ws ys G3 H3 ⟨xs, p, pm⟩ (Ex.t e2 e3) s3 ra⟩⟩
end
end My

set_option Elab.async false
set_option linter.all false
set_option maxRecDepth 100000
set_option maxHeartbeats 4000000
namespace My
open PySem PySem.Spec PyProof.Rows L2 Dk
open Evl (Ex)
open Dk.Py (rp)
open Dk.PyD (pic)
/-! ### different names -/
def wordsA : Str := Str.ofString "call retire hire late undo redo line live keepers log ends depth settle lose reach"
def wordsB : Str := Str.ofString " safe calls cycle ok workers desk a b ab"
def wordsL : List Str := PySem.Txt.split (wordsA ++ wordsB) (Str.ofString " ")
theorem wordsL_ok : wordsL.length = 24 ∧ wordsL.Nodup ∧ (wordsL.all fun x => decide (1 ≤ x.length) && decide (x.length ≤ 8) && x.cps.toList.all fun c => decide (97 ≤ c) && decide (c ≤ 122)) = true := by decide +kernel
theorem wordsL_nm : ∀ x ∈ wordsL, Nm x := by
  intro x hx
  have h := List.all_eq_true.mp wordsL_ok.2.2 x hx
  simp only [Bool.and_eq_true, decide_eq_true_eq, List.all_eq_true] at h
  exact ⟨h.1.1, h.1.2, h.2⟩
theorem perm_rot {α : Type} (l : List α) (n : Nat) : (l.drop n ++ l.take n).Perm l := List.perm_append_comm.trans (by rw [List.take_append_drop])
def Names (n : Nat) (ys : List Str) : Prop := ys.length = n ∧ ys.Nodup ∧ ∀ y ∈ ys, Nm y
theorem names_words {t n : Nat} (h : n ≤ 24) : Names n ((wordsL.drop t ++ wordsL.take t).take n) := by
  have pm := perm_rot wordsL t
  refine ⟨?_, ?_, fun y hy => ?_⟩
  · rw [List.length_take, pm.length_eq, wordsL_ok.1]
    omega
  · exact (pm.nodup_iff.mpr wordsL_ok.2.1).sublist (List.take_sublist _ _)
  · exact wordsL_nm y (pm.mem_iff.mp (List.mem_of_mem_take hy))
theorem names_of {n : Nat} {ys : List Str} (hl : ys.length = n) (f : Nat → List Nat) (hf : ∀ (k : Nat) (y : Str), ys[k]? = some y → y.cps.toList = f k) (inj : ∀ k j, k < n → j < n → f k = f j → k = j) (ok : ∀ k, k < n → 1 ≤ (f k).length ∧ (f k).length ≤ 8 ∧ ∀ c ∈ f k, 97 ≤ c ∧ c ≤ 122) : Names n ys := by
  refine ⟨hl, ?_, fun y hy => ?_⟩
  · rw [List.nodup_iff_pairwise_ne, List.pairwise_iff_getElem]
    intro i j hi hj hij e
    have e1 := hf i _ (List.getElem?_eq_getElem hi)
    have e2 := hf j _ (List.getElem?_eq_getElem hj)
    rw [e, e2] at e1
    have := inj i j (by omega) (by omega) e1.symm
    omega
  · obtain ⟨k, hk, e⟩ := List.getElem_of_mem hy
    have := hf k y (by rw [List.getElem?_eq_getElem hk, e])
    obtain ⟨h1, h2, h3⟩ := ok k (by omega)
    rw [← this] at h1 h2 h3
    exact ⟨h1, h2, h3⟩
theorem mod_inj {t k j : Nat} (h1 : (t + 3 * k) % 26 = (t + 3 * j) % 26) (h2 : k / 26 = j / 26) : k = j := by omega
/-- the k-th: base with another letter at its place at, and some more of its first -/
def nk (base : List Nat) (at_ t k : Nat) : List Nat := (base.take at_ ++ [97 + (t + 3 * k) % 26] ++ base.drop (at_ + 1)) ++ List.replicate (k / 26) (base.headD 97)
theorem nk_len {base : List Nat} {at_ t k : Nat} (h : at_ < base.length) : (nk base at_ t k).length = base.length + k / 26 := by
  unfold nk
  simp only [List.length_append, List.length_take, List.length_drop, List.length_replicate, List.length_cons, List.length_nil]
  omega
theorem nk_at {base : List Nat} {at_ t k : Nat} (h : at_ < base.length) : (nk base at_ t k)[at_]? = some (97 + (t + 3 * k) % 26) := by
  unfold nk
  rw [List.append_assoc, List.append_assoc, List.getElem?_append_right (by rw [List.length_take]; omega), List.length_take, Nat.min_eq_left (by omega), Nat.sub_self]
  rfl
theorem nk_names {base : List Nat} {at_ t n : Nat} {ys : List Str} (h : at_ < base.length) (h6 : base.length ≤ 6) (hb : ∀ c ∈ base, 97 ≤ c ∧ c ≤ 122) (hn : n ≤ 70) (hl : ys.length = n) (hf : ∀ (k : Nat) (y : Str), ys[k]? = some y → y.cps.toList = nk base at_ t k) : Names n ys := by
  refine names_of hl (nk base at_ t) hf (fun k j hk hj e => ?_) fun k hk => ?_
  · have e1 := congrArg List.length e
    rw [nk_len h, nk_len h] at e1
    have e2 := congrArg (fun l => l[at_]?) e
    simp only [nk_at h] at e2
    have e3 := Option.some.inj e2
    exact mod_inj (t := t) (by omega) (by omega)
  · rw [nk_len h]
    refine ⟨by omega, by omega, fun c hc => ?_⟩
    unfold nk at hc
    simp only [List.mem_append, List.mem_replicate, List.mem_singleton] at hc
    rcases hc with ((hc | hc) | hc) | ⟨_, hc⟩
    · exact hb c (List.mem_of_mem_take hc)
    · omega
    · exact hb c (List.mem_of_mem_drop hc)
    · subst hc
      cases base with
      | nil => simp at h
      | cons a r => exact hb a (List.mem_cons_self ..)
section
variable {P : Program} {w : World} {K : PySem.W.Frag} {mg : Str → Option Value} {base : Heap}
/-- a letter drawn -/
def IsL (z : Str) : Prop := ∃ c, z.cps.toList = [c] ∧ 97 ≤ c ∧ c ≤ 122
theorem ev_take {b : Addr} {O : List (Addr × HO)} {te : TE} {σ : L2.St} {G : Hp} {i : Nat} {R : Int → Prop} {E : XK} (hv : σ[i]? = some (some (.ref b))) (h : EvP (some b) O te σ G R) (hp : ∀ m, R m → 1 ≤ m ∧ m ≤ 10 ^ 41) :
    EvP (some b) O (tCall spTake [] E (tCons (tVar i) (tCons te tNil))) σ G fun r : Int => ∃ m, R m ∧ 0 ≤ r ∧ r < m := ev_callP (A := Int) (eb_1 hv h) hp
theorem ev_takeD {b : Addr} {O : List (Addr × HO)} {te : TE} {σ : L2.St} {G : Hp} {i : Nat} {m : Int} {E : XK} (hv : σ[i]? = some (some (.ref b))) (h : EvD (some b) O te σ G m) (hp : 1 ≤ m ∧ m ≤ 10 ^ 41 := by decide) :
    EvP (some b) O (tCall spTake [] E (tCons (tVar i) (tCons te tNil))) σ G fun r : Int => 0 ≤ r ∧ r < m := (ev_take hv h fun _ e => e ▸ hp).imp fun _ ⟨_, e, h⟩ => e ▸ h
theorem o2_abc {i : Int} (h0 : 0 ≤ i) (h1 : i < 26) : Op2 (rIx K) abc i fun z : Str => z = ⟨#[97 + i.toNat]⟩ := o2_ixS h0 (abc_at _ (by omega)) (by rw [abc_len]; decide)
def spNames : Sp := SpN (b1 (α := Int)) (fun m => 0 ≤ m ∧ m ≤ 70) (fun m (r : List Str) => Names m.toNat r)
theorem ok_law_names (T : Tx K mg) : FnG P w K mg base CX0 2 T.a_law_names T.d_law_names p_law_names spNames := by
  refine okN T.f_law_names sc_law_names (fun vs H Q E h => ?_) (fun cdv A outer s H vs Q E gd hr h => ?_)
  · obtain ⟨B, O, G, m, s, ⟨b, v, rfl, rfl, rv⟩, hm, k⟩ := h
    rfl
  · obtain ⟨B, O, G, m, s, ⟨b, v, rfl, rfl, rv⟩, hm, k⟩ := h
    cases rv
    have nd := sc_law_names.nd
    refine ⟨_, (pss_cons (ps_set (i := 2) nd rfl (Or.inr rfl) pe_str)
      (pss_cons (ps_set (i := 3) nd rfl (Or.inl rfl) pe_str)
      (pss_cons (ps_set (i := 3) nd rfl (Or.inl rfl) (pe_split (pe_op op_plus (pv 3) pe_str) pe_str))
      (pss_cons (ps_asg (pe_tup (pa_cons (pe_callG (ok_law_take T) gd (hr.mono (by decide)) (by rfl) T.g_law_take T.k_law_take T.b_law_take pass0 (pa_cons (pv 0) (pa_cons pe_int pa_nil))) (pa_cons (pe_callG (ok_law_take T) gd (hr.mono (by decide)) (by rfl) T.g_law_take T.k_law_take T.b_law_take pass0 (pa_cons (pv 0) (pa_cons pe_int pa_nil))) pa_nil))) (pg_tupQ (K := K) rfl (pg_tup (by rfl) (pgs_cons (pg_name (i := 4) nd rfl (Or.inl rfl)) (pgs_cons (pg_name (i := 5) nd rfl (Or.inr rfl)) pgs_nil)))))
      (pss_cons (ps_set (i := 6) nd rfl (Or.inl rfl) (pe_op op_plus pe_int (pe_callG (ok_law_take T) gd (hr.mono (by decide)) (by rfl) T.g_law_take T.k_law_take T.b_law_take pass0 (pa_cons (pv 0) (pa_cons pe_int pa_nil)))))
      (pss_cons (ps_set (i := 7) nd rfl (Or.inr rfl) (pe_join pe_str (pe_lc (own := [("k", 10)]) (by rfl) nd (pi_range1 (by rfl) T.z_range (pa_cons (pv 6) pa_nil)) (blkOk_by (own := [("k", 10)]) (N := n_law_names) (sc := defScope s_law_names) (by decide +kernel)) (fun _ _ _ _ _ => (pg_name (i := 10) nd rfl (Or.inl rfl))) (fun _ _ _ _ _ => pts_nil) (fun _ _ _ _ _ => (pe_ix (ixQ (K := K) rfl) (pv 2) (pe_callG (ok_law_take T) gd (hr.mono (by decide)) (by rfl) T.g_law_take T.k_law_take T.b_law_take pass0 (pa_cons (pv 0) (pa_cons pe_int pa_nil))) (fun _ _ => rfl))))))
      (pss_cons (ps_set (i := 8) nd rfl (Or.inr rfl) (pe_callG (ok_law_take T) gd (hr.mono (by decide)) (by rfl) T.g_law_take T.k_law_take T.b_law_take pass0 (pa_cons (pv 0) (pa_cons (pv 6) pa_nil))))
      (pss_cons (ps_if (PW.pt (pw_and (pt_cmpR (eqQ (K := K) rfl hr.units) (pv 4) pe_int (nomark _)) (pw_and1 (pt_cmpR op_le (pv 1) pe_int (nomark _))))) (pss_one (ps_ret (pe_slice (slQ (K := K) rfl) (pe_op op_plus (pe_slice (slQ (K := K) rfl) (pv 3) (po_some (pe_op op_mod (pv 5) pe_int)) po_none) (pe_slice (slQ (K := K) rfl) (pv 3) po_none (po_some (pe_op op_mod (pv 5) pe_int)))) po_none (po_some (pv 1)))))
      pss_nil)
      (pss_cons (ps_if (PW.pt (pw_and (pt_cmpR (eqQ (K := K) rfl hr.units) (pv 4) pe_int (nomark _)) (pw_and1 (pt_cmpR op_le (pv 1) pe_int (nomark _))))) (pss_one (ps_ret (pe_lc (own := [("k", 10)]) (by rfl) nd (pi_range1 (by rfl) T.z_range (pa_cons (pv 1) pa_nil)) (blkOk_by (own := [("k", 10)]) (N := n_law_names) (sc := defScope s_law_names) (by decide +kernel)) (fun _ _ _ _ _ => (pg_name (i := 10) nd rfl (Or.inl rfl))) (fun _ _ _ _ _ => pts_nil) (fun _ _ _ _ _ => (pe_slice (slQ (K := K) rfl) (pe_op op_times (pe_ix (ixQ (K := K) rfl) (pv 2) (pv 5) (fun _ _ => rfl)) pe_int) po_none (po_some (pe_op op_plus (pv 10) pe_int)))))))
      pss_nil)
      (pss_cons (ps_set (i := 9) nd rfl (Or.inr rfl) (pe_lc (own := [("k", 10)]) (by rfl) nd (pi_range1 (by rfl) T.z_range (pa_cons (pv 1) pa_nil)) (blkOk_by (own := [("k", 10)]) (N := n_law_names) (sc := defScope s_law_names) (by decide +kernel)) (fun _ _ _ _ _ => (pg_name (i := 10) nd rfl (Or.inl rfl))) (fun _ _ _ _ _ => pts_nil) (fun _ _ _ _ _ => (pe_op op_plus (pe_op op_plus (pe_slice (slQ (K := K) rfl) (pv 7) po_none (po_some (pv 8))) (pe_ix (ixQ (K := K) rfl) (pv 2) (pe_op op_mod (pe_op op_plus (pv 5) (pe_op op_times pe_int (pv 10))) pe_int) (fun _ _ => rfl))) (pe_slice (slQ (K := K) rfl) (pv 7) (po_some (pe_op op_plus (pv 8) pe_int)) po_none)))))
      (pss_one (ps_ret (pe_lc (own := [("k", 10)]) (by rfl) nd (pi_range1 (by rfl) T.z_range (pa_cons (pv 1) pa_nil)) (blkOk_by (own := [("k", 10)]) (N := n_law_names) (sc := defScope s_law_names) (by decide +kernel)) (fun _ _ _ _ _ => (pg_name (i := 10) nd rfl (Or.inl rfl))) (fun _ _ _ _ _ => pts_nil) (fun _ _ _ _ _ => (pe_op op_plus (pe_ix (ixQ (K := K) rfl) (pv 9) (pv 10) (fun _ _ => rfl)) (pe_op op_times (pe_ix (ixQ (K := K) rfl) (pv 7) pe_int (fun _ _ => rfl)) (pe_op op_fdivW (pv 10) pe_int))))))))))))))))), ?_⟩
    refine q_set (α := Str) ev_str s fun v1 a1 G1 H1 e1 x1 s1 r1 => ?_
    refine q_set (α := Str) ev_str s1 fun v2 a2 G2 H2 e2 x2 s2 r2 => ?_
    refine q_setN (en_split (ev_op (ev_var rfl r2) ev_str (o2_addS (y := wordsB) ?_)) (ev_str (i := Str.ofString " ")) (by decide +kernel) ?_) s2 fun l3 ls3 a3 G3 H3 e3 x3 s3 r3 => ?_
    · subst e2; decide +kernel
    · subst e2; decide +kernel
    have ea : a1 = abc := e1
    clear e1
    subst ea
    cases r1; cases r2
    have ew : a3 = wordsL := by rw [e3, e2]; rfl
    subst ew
    obtain ⟨G4, x4, s4, r4⟩ := s3.rest r3
    refine q_unp (α := Int) (β := Int) (ev_pair (ev_takeD rfl ev_int) (ev_takeD rfl ev_int)) s4 fun v5 v6 way turn G5 H5 ⟨e5, e6⟩ x5 s5 r5 r6 => ?_
    cases r5; cases r6
    simp only at e5 e6
    refine q_set (α := Int) (P := fun z => 1 ≤ z ∧ z ≤ 6) (ev_opP (α := Int) (β := Int) (P := fun z => z = 1) ev_int (ev_takeD rfl ev_int) fun x y e h => o2_addI.imp fun z hz => by omega) s5 fun v7 size G7 H7 e7 x7 s7 r7 => ?_
    cases r7
    refine q_set (α := Str) (P := fun z => (z.length : Int) = size ∧ ∀ c ∈ z.cps.toList, 97 ≤ c ∧ c ≤ 122) ((ev_join (ev_str (i := Str.ofString "")) ((en_lcR (β := Str) (P := fun n => n = size) (fun _ => true) (fun _ z => IsL z) (ev_var rfl rfl) (fun n e => by omega)
      (fun n i G8 H8 O8 Q e hi x8 s8 k => g_name (k _ rfl et_yes fun _ => ev_opP (α := Str) (β := Int) (P := fun z => z = abc) (ev_var rfl rfl) (ev_takeD rfl ev_int) fun x y e h => e ▸ (o2_abc h.1 h.2).imp fun z hz => ⟨97 + y.toNat, by rw [hz], by omega, by omega⟩))).still) fun ys ⟨n, e, hr⟩ => ?_).imp fun z ⟨ys, ⟨n, e, hr⟩, hz⟩ => ?_) s7 fun v8 bs G8 H8 e8 x8 s8 r8 => ?_
    · have hl : ys.length = n.toNat := by rw [rel2_len hr, filter_true, List.length_map, List.length_range]
      have h1 : ∀ l : List Str, (∀ y ∈ l, IsL y) → (l.map (·.length)).sum = l.length := by
        intro l
        induction l with
        | nil => intro _; rfl
        | cons a r ih =>
          intro h
          obtain ⟨c, hc, _⟩ := h a (List.mem_cons_self ..)
          rw [List.map_cons, List.sum_cons, ih fun y hy => h y (List.mem_cons_of_mem _ hy), len_tl, hc, List.length_cons, List.length_cons, List.length_nil]
          omega
      have h2 := h1 ys fun y hy => let ⟨_, _, h⟩ := rel2_mem hr hy; h
      have h3 : (Str.ofString "").length = 0 := by decide +kernel
      rw [h2, h3, hl]
      omega
    · have hl : ys.length = n.toNat := by rw [rel2_len hr, filter_true, List.length_map, List.length_range]
      have h2 : ∀ y ∈ ys, IsL y := fun y hy => let ⟨_, _, h⟩ := rel2_mem hr hy; h
      have h1 : ∀ l : List Str, (∀ y ∈ l, IsL y) → (l.map (·.cps.toList)).flatten.length = l.length ∧ ∀ c ∈ (l.map (·.cps.toList)).flatten, 97 ≤ c ∧ c ≤ 122 := by
        intro l
        induction l with
        | nil => intro _; exact ⟨rfl, fun c h => by simp at h⟩
        | cons a r ih =>
          intro h
          obtain ⟨c, hc, hc1, hc2⟩ := h a (List.mem_cons_self ..)
          obtain ⟨i1, i2⟩ := ih fun y hy => h y (List.mem_cons_of_mem _ hy)
          rw [List.map_cons, List.flatten_cons, hc]
          refine ⟨by rw [List.length_append, i1, List.length_cons, List.length_cons, List.length_nil]; omega, fun d hd => ?_⟩
          rcases List.mem_append.mp hd with hd | hd
          · rw [List.mem_singleton.mp hd]; exact ⟨hc1, hc2⟩
          · exact i2 d hd
      obtain ⟨i1, i2⟩ := h1 ys h2
      rw [hz, len_tl, join_tl, i1, hl]
      exact ⟨by omega, i2⟩
    cases r8
    refine q_set (α := Int) (ev_take rfl (ev_var rfl rfl) (R := fun m => m = size) fun m e => by omega) s8 fun v9 at_ G9 H9 e9 x9 s9 r9 => ?_
    cases r9
    obtain ⟨sz, es, at0, at1⟩ := e9
    rw [es] at at1
    clear es sz
    have xw : Ex G4 G9 := Ex.t x5 (Ex.t x7 (Ex.t x8 x9))
    have fin : ∀ {p ws r G' H'}, Names m.toNat r → Ex G9 G' → Sx (some b) ((p, .lst ws) :: O) G' H' → All2 G' ws r → Q (.ref p) H' := fun hn x s r => k _ _ _ _ _ hn (Ex.t x1 (Ex.t x2 (Ex.t x3 (Ex.t x4 (Ex.t xw x))))) s r
    have hsize : at_.toNat < bs.cps.toList.length ∧ bs.cps.toList.length ≤ 6 := by
      have := e8.1
      rw [len_tl] at this
      omega
    -- if way == 0 and many <= 24
    refine q_when (et_and (et_test (ev_op (α := Int) (β := Int) (ev_var rfl rfl) ev_int o2_eqI)) fun _ => et_test (ev_op (α := Int) (β := Int) (ev_var rfl rfl) ev_int o2_le)) s9 (fun G10 H10 c x10 s10 => ?_) fun G10 H10 c x10 s10 => ?_
    · have hm24 : m ≤ 24 := by
        simp only [Bool.true_eq, Bool.and_eq_true, decide_eq_true_eq] at c
        omega
      have ix : ∀ {O'}, EvD (some b) O' (tOp (rI (fun _ j => 0 < j) fun i j => .int (i % j)) (tVar 5) (tC (.int 24))) [some (V.ref b), some (V.int m), some (V.str abc), some (V.ref l3), some (V.int way), some (V.int turn), some (V.int size), some (V.str bs), some (V.int at_), none, none] G10 (((turn % 24).toNat : Nat) : Int) :=
        EvP.is (ev_op (α := Int) (β := Int) (ev_var rfl rfl) ev_int (o2_mod (by decide))) (by omega)
      have vw : ∀ {O'}, EvD (some b) O' (tVar 3) [some (V.ref b), some (V.int m), some (V.str abc), some (V.ref l3), some (V.int way), some (V.int turn), some (V.int size), some (V.str bs), some (V.int at_), none, none] G10 wordsL := ev_var rfl (Py.up (Ex.t xw x10) r4)
      refine s_retN (P := fun r => Names m.toNat r) ((en_cut (en_op (en_cut vw (eo_some ix) eo_none).still (en_cut vw eo_none (eo_some ix)).still (o2_addL ?_)).still eo_none (eo_some (EvP.is (ev_var (a := m) rfl rfl) (show m = ((m.toNat : Nat) : Int) by omega)))).imp fun r e => ?_) s10 fun p ws r G' H' hn x s r => fin hn (Ex.t x10 x) s r
      · rw [cutL_from, cutL_to, List.length_drop, List.length_take, wordsL_ok.1]
        omega
      · rw [e, cutL_from, cutL_to, cutL_to]
        exact names_words (by omega)
    -- if way == 1 and many <= 8
    refine q_when (et_and (et_test (ev_op (α := Int) (β := Int) (ev_var rfl rfl) ev_int o2_eqI)) fun _ => et_test (ev_op (α := Int) (β := Int) (ev_var rfl rfl) ev_int o2_le)) s10 (fun G11 H11 c x11 s11 => ?_) fun G11 H11 c x11 s11 => ?_
    · have hm8 : m ≤ 8 := by
        simp only [Bool.true_eq, Bool.and_eq_true, decide_eq_true_eq] at c
        omega
      refine s_retN (P := fun r => Names m.toNat r) ((en_lcR (β := Str) (P := fun n => n = m) (fun _ => true) (fun (i : Int) z => z.cps.toList = List.replicate (i.toNat + 1) (97 + turn.toNat)) (ev_var rfl rfl) (fun n e => by omega)
        (fun n i G12 H12 O12 Q e hi x12 s12 k => g_name (k _ rfl et_yes fun _ => ((ev_cutS (EvP.is (ev_op (α := Str) (β := Int) ((ev_op (α := Str) (β := Int) (ev_var rfl rfl) (ev_var rfl rfl) (o2_abc (i := turn) e6.1 e6.2))) ev_int (o2_mulS (by decide) (by decide) (by show 1 ≤ 10; decide))) rfl) eo_none (eo_some (EvP.is (ev_op (α := Int) (β := Int) (ev_var rfl rfl) ev_int o2_addI) (show (i : Int) + 1 = ((i + 1 : Nat) : Int) by omega))) ?_)).imp fun z hz => ?_))).imp fun ys ⟨n, e, hr⟩ => ?_) s11 fun p ws r G' H' hn x s r => fin hn (Ex.t x10 (Ex.t x11 x)) s r
      · rw [len_tl, show (8 : Int) = ((8 : Nat) : Int) from rfl, mul_tl]
        simp
      · have e8 : (PySem.Txt.mul (⟨#[97 + turn.toNat]⟩ : Str) 8).cps.toList = List.replicate 8 (97 + turn.toNat) := by
          rw [show (8 : Int) = ((8 : Nat) : Int) from rfl, mul_tl]
          rfl
        rw [hz, cutS_to (by rw [len_tl, e8, List.length_replicate]; omega), e8, List.take_replicate, Nat.min_eq_left (by omega)]
        rfl
      · subst e
        have hl : ys.length = n.toNat := by rw [rel2_len hr, filter_true, List.length_map, List.length_range]
        refine names_of hl (fun k => List.replicate (k + 1) (97 + turn.toNat)) (fun k y hy => ?_) (fun k j _ _ e => ?_) fun k hk => ?_
        · obtain ⟨x, hx, hxy⟩ := rel2_get hr hy
          rw [filter_true] at hx
          obtain ⟨rfl, _⟩ := ints_at hx
          rw [hxy]
          rfl
        · have := congrArg List.length e
          simp only [List.length_replicate] at this
          omega
        · rw [List.length_replicate]
          refine ⟨by omega, by omega, fun c hc => ?_⟩
          have := (List.mem_replicate.mp hc).2
          omega
    -- found
    have eat : at_ = ((at_.toNat : Nat) : Int) := by omega
    have eat1 : at_ + 1 = ((at_.toNat + 1 : Nat) : Int) := by omega
    have lbs : bs.length ≤ 6 := by rw [len_tl]; exact hsize.2
    have cut1 : (cutS bs none (some at_)).cps.toList = bs.cps.toList.take at_.toNat := by rw [eat, cutS_to (by rw [len_tl]; omega)]; rfl
    have cut2 : (cutS bs (some (at_ + 1)) none).cps.toList = bs.cps.toList.drop (at_.toNat + 1) := by rw [eat1, cutS_from (by rw [len_tl]; omega)]
    refine q_set (α := List Str) (P := fun r => r.length = m.toNat ∧ ∀ (k : Nat) (y : Str), r[k]? = some y → y.cps.toList = bs.cps.toList.take at_.toNat ++ [97 + (turn.toNat + 3 * k) % 26] ++ bs.cps.toList.drop (at_.toNat + 1)) ?_ s11 fun v13 fs G13 H13 e13 x13 s13 r13 => ?_
    · refine EvP.imp (EvN.still ?_) fun ys (h : ∃ n, n = m ∧ Rel2 (fun (i : Int) (z : Str) => z.cps.toList = bs.cps.toList.take at_.toNat ++ [97 + (turn.toNat + 3 * i.toNat) % 26] ++ bs.cps.toList.drop (at_.toNat + 1)) (((List.range n.toNat).map fun i : Nat => (i : Int)).filter fun _ => true) ys) => ?_
      · refine en_lcR (fun _ => true) _ ?_ (fun n e => by omega) fun n i G12 H12 O12 Q e hi x12 s12 k => g_name (k _ rfl et_yes fun _ => ?_)
        · exact ev_var rfl rfl
        refine EvP.imp (P := fun z => z = cutS bs none (some at_) ++ (⟨#[97 + ((turn + 3 * (i : Int)) % 26).toNat]⟩ : Str) ++ cutS bs (some (at_ + 1)) none) ?_ fun z hz => ?_
        · refine ev_op (α := Str) (β := Str) (ev_op (α := Str) (β := Str) ?_ ?_ (o2_addS ?_)) ?_ (o2_addS ?_)
          · exact ev_cutS (ev_var rfl rfl) eo_none (eo_some (ev_var rfl rfl)) (by omega)
          · refine ev_op (α := Str) (β := Int) (ev_var rfl rfl) ?_ (o2_abc (by omega) (by omega))
            refine ev_op (α := Int) (β := Int) ?_ ev_int (o2_mod (by decide))
            refine ev_op (α := Int) (β := Int) (ev_var rfl rfl) ?_ o2_addI
            exact ev_op (α := Int) (β := Int) ev_int (ev_var rfl rfl) (o2_mulI (.inl ⟨by decide, by decide⟩))
          · have := cutS_length bs none (some at_)
            show _ + 1 ≤ _
            omega
          · refine ev_cutS (ev_var rfl rfl) (eo_some ?_) eo_none (by omega)
            exact ev_op (α := Int) (β := Int) (ev_var rfl rfl) ev_int o2_addI
          · have h1 := cutS_length bs none (some at_)
            have h2 := cutS_length bs (some (at_ + 1)) none
            have h3 : (cutS bs none (some at_) ++ (⟨#[97 + ((turn + 3 * (i : Int)) % 26).toNat]⟩ : Str)).length = (cutS bs none (some at_)).length + 1 := by rw [len_tl, tl_app, List.length_append]; rfl
            omega
        · rw [hz, tl_app, tl_app, cut1, cut2]
          have : ((turn + 3 * (i : Int)) % 26).toNat = (turn.toNat + 3 * ((i : Int)).toNat) % 26 := by omega
          rw [this]
      · obtain ⟨n, e, hr⟩ := h
        subst e
        refine ⟨by rw [rel2_len hr, filter_true, List.length_map, List.length_range], fun k y hy => ?_⟩
        obtain ⟨x, hx, hxy⟩ := rel2_get hr hy
        rw [filter_true] at hx
        obtain ⟨rfl, _⟩ := ints_at hx
        rw [hxy]
        rfl
    · obtain ⟨fl, ff⟩ := e13
      have hb0 : ∃ c0, bs.cps.toList[0]? = some c0 := ⟨bs.cps.toList[0], List.getElem?_eq_getElem (by omega)⟩
      obtain ⟨c0, hc0⟩ := hb0
      have hd0 : bs.cps.toList.headD 97 = c0 := by
        cases e : bs.cps.toList with
        | nil => rw [e] at hc0; simp at hc0
        | cons a r => rw [e] at hc0; simpa using hc0
      refine s_retN (P := fun r => Names m.toNat r) (EvN.imp ?_ fun ys (h : ∃ n, n = m ∧ Rel2 (fun (i : Int) (z : Str) => z.cps.toList = nk bs.cps.toList at_.toNat turn.toNat i.toNat) (((List.range n.toNat).map fun i : Nat => (i : Int)).filter fun _ => true) ys) => ?_) s13 fun p ws r G' H' hn x s r => fin hn (Ex.t x10 (Ex.t x11 (Ex.t x13 x))) s r
      · refine en_lcR (fun _ => true) _ ?_ (fun n e => by omega) fun n i G14 H14 O14 Q e hi x14 s14 k => g_name (k _ rfl et_yes fun _ => ?_)
        · exact ev_var rfl rfl
        have hi2 : i < fs.length := by omega
        refine EvP.imp (P := fun z => z = fs[i] ++ PySem.Txt.mul (⟨#[c0]⟩ : Str) (((i / 26 : Nat)) : Int)) ?_ fun z hz => ?_
        · refine ev_op (α := Str) (β := Str) ?_ ?_ (o2_addS ?_)
          · exact ev_op (α := List Str) (β := Int) (ev_var rfl (Py.up x14 r13)) (ev_var rfl rfl) (o2_ixL (by omega) (List.getElem?_eq_getElem hi2))
          · refine EvP.is (a := PySem.Txt.mul (⟨#[c0]⟩ : Str) ((i : Int) / 26)) ?_ rfl
            refine ev_op (α := Str) (β := Int) ?_ ?_ (o2_mulS (by omega) (by omega) (by show 1 ≤ 10; decide))
            · exact ev_op (α := Str) (β := Int) (ev_var rfl rfl) ev_int (o2_ixS (by decide) hc0 (by omega))
            · exact ev_op (α := Int) (β := Int) (ev_var rfl rfl) ev_int (o2_fdiv (wide_div (b := 10) (by decide) (by decide) (by decide) (by decide)))
          · rw [len_tl, len_tl, mul_tl, ff i _ (List.getElem?_eq_getElem hi2)]
            simp only [List.length_append, List.length_take, List.length_drop, List.length_cons, List.length_nil, List.length_flatten, List.map_replicate, List.sum_replicate_nat]
            omega
        · rw [hz, tl_app, mul_tl, ff i _ (List.getElem?_eq_getElem hi2)]
          unfold nk
          rw [hd0]
          congr 1
          show (List.replicate (i / 26) [c0]).flatten = _
          rw [List.flatten_replicate_singleton]
          rfl
      · obtain ⟨n, e, hr⟩ := h
        subst e
        refine nk_names (t := turn.toNat) hsize.1 hsize.2 e8.2 (by omega) (by rw [rel2_len hr, filter_true, List.length_map, List.length_range]) fun k y hy => ?_
        obtain ⟨x, hx, hxy⟩ := rel2_get hr hy
        rw [filter_true] at hx
        obtain ⟨rfl, _⟩ := ints_at hx
        rw [hxy]
        rfl
theorem en_names {b : Addr} {O : List (Addr × HO)} {te : TE} {σ : L2.St} {G : Hp} {i : Nat} {R : Int → Prop} {E : XK} (hv : σ[i]? = some (some (.ref b))) (h : EvP (some b) O te σ G R) (hp : ∀ m, R m → 0 ≤ m ∧ m ≤ 70) :
    EvN (some b) O (tCall spNames [] E (tCons (tVar i) (tCons te tNil))) σ G fun r : List Str => ∃ m : Int, R m ∧ Names m.toNat r := en_callP (A := Int) (eb_1 hv h) hp
end
end My

set_option Elab.async false
set_option linter.all false
set_option maxRecDepth 100000
set_option maxHeartbeats 4000000
namespace My
open PySem PySem.Spec PyProof.Rows L2 Dk
open Evl (Ex)
open Dk.Py (rp)
open Dk.PyD (pic)
/-- some of the workers, at least one -/
def Crew (ws r : List Str) : Prop := r ≠ [] ∧ r.Nodup ∧ ∀ x ∈ r, x ∈ ws
theorem crew_perm {ws r q : List Str} (h : Crew ws r) (p : q.Perm r) : Crew ws q := ⟨fun e => h.1 (by rw [e] at p; exact p.symm.eq_nil), p.nodup_iff.mpr h.2.1, fun x hx => h.2.2 x (p.mem_iff.mp hx)⟩
theorem crew_sub {ws q : List Str} (nd : ws.Nodup) (h : q.Sublist ws) (ne : q ≠ []) : Crew ws q := ⟨ne, nd.sublist h, fun x hx => h.subset hx⟩
theorem nodup_len : ∀ {r ws : List Str}, r.Nodup → (∀ x ∈ r, x ∈ ws) → r.length ≤ ws.length
  | [], _, _, _ => Nat.zero_le _
  | a :: r, ws, nd, sub => by
    have ha := sub a (List.mem_cons_self ..)
    have ih := nodup_len (r := r) (ws := ws.erase a) (List.nodup_cons.mp nd).2 fun x hx => by
      refine (List.mem_erase_of_ne (fun e : x = a => (List.nodup_cons.mp nd).1 (by rw [← e]; exact hx))).mpr (sub x (List.mem_cons_of_mem _ hx))
    rw [List.length_erase_of_mem ha] at ih
    have := List.length_pos_of_mem ha
    rw [List.length_cons]
    omega
theorem crew_len {ws r : List Str} (h : Crew ws r) : r.length ≤ ws.length := nodup_len h.2.1 h.2.2
theorem cutL_sub {α : Type} (xs : List α) (lo hi : Option Int) : (cutL xs lo hi).Sublist xs := (List.take_sublist _ _).trans (List.drop_sublist _ _)
section
variable {P : Program} {w : World} {K : PySem.W.Frag} {mg : Str → Option Value} {base : Heap}
def spCrew : Sp := SpN (b2 (α := List Str) (β := Int)) (fun a => a.1 ≠ [] ∧ a.1.length ≤ 70 ∧ a.1.Nodup ∧ ∀ x ∈ a.1, okS x) (fun a (r : List Str) => Crew a.1 r)
theorem ok_law_crew (T : Tx K mg) : FnG P w K mg base CX0 3 T.a_law_crew T.d_law_crew p_law_crew spCrew := by
  refine okN T.f_law_crew sc_law_crew (fun vs H Q E h => ?_) (fun cdv A outer s H vs Q E gd hr h => ?_)
  · obtain ⟨B, O, G, a, s, ⟨b, v, u, rfl, rfl, rv, ru⟩, hm, k⟩ := h
    rfl
  · obtain ⟨B, O, G, ⟨ws, way⟩, s, ⟨b, v, u, rfl, rfl, rv, ru⟩, ⟨hne, h70, hnd, hok⟩, k⟩ := h
    cases ru
    simp only at rv hne h70 hnd hok
    have nd := sc_law_crew.nd
    have hpos : 1 ≤ ws.length := by
      cases ws with
      | nil => exact absurd rfl hne
      | cons a r => simp
    refine ⟨_, (pss_cons (ps_set (i := 3) nd rfl (Or.inl rfl) (pe_callB (lenQ (K := K) rfl) (by rfl) T.z_len (by decide +kernel) (pa_cons (pv 1) pa_nil)))
      (pss_cons (ps_asg (pe_tup (pa_cons (pe_callG (ok_law_take T) gd (hr.mono (by decide)) (by rfl) T.g_law_take T.k_law_take T.b_law_take pass0 (pa_cons (pv 0) (pa_cons (pv 3) pa_nil))) (pa_cons (pe_callG (ok_law_take T) gd (hr.mono (by decide)) (by rfl) T.g_law_take T.k_law_take T.b_law_take pass0 (pa_cons (pv 0) (pa_cons (pv 3) pa_nil))) pa_nil))) (pg_tupQ (K := K) rfl (pg_tup (by rfl) (pgs_cons (pg_name (i := 4) nd rfl (Or.inr rfl)) (pgs_cons (pg_name (i := 5) nd rfl (Or.inl rfl)) pgs_nil)))))
      (pss_cons (ps_if (pt_cmpR (eqQ (K := K) rfl hr.units) (pv 2) pe_int (nomark _)) (pss_one (ps_ret (pe_lst (pa_cons (pe_ix (ixQ (K := K) rfl) (pv 1) (pv 4) (fun _ _ => rfl)) pa_nil))))
      pss_nil)
      (pss_cons (ps_if (pt_cmpR (eqQ (K := K) rfl hr.units) (pv 2) pe_int (nomark _)) (pss_one (ps_ret (pe_op op_plus (pe_lst (pa_cons (pe_ix (ixQ (K := K) rfl) (pv 1) (pv 4) (fun _ _ => rfl)) pa_nil)) (pe_op op_times (pe_lst (pa_cons (pe_ix (ixQ (K := K) rfl) (pv 1) (pv 5) (fun _ _ => rfl)) pa_nil)) (pe_callTy cr_int (by rfl) T.z_int (by decide +kernel) (pa_cons (pe_cmpR (neQ (K := K) rfl hr.units) (pv 5) (pv 4) (nomark _)) pa_nil))))))
      pss_nil)
      (pss_cons (ps_if (pt_cmpR (eqQ (K := K) rfl hr.units) (pv 2) pe_int (nomark _)) (pss_one (ps_ret (pe_callG (ok_law_mixed T) gd (hr.mono (by decide)) (by rfl) T.g_law_mixed T.k_law_mixed T.b_law_mixed pass0 (pa_cons (pv 0) (pa_cons (pe_slice (slQ (K := K) rfl) (pv 1) (po_some (pe_callB (cr_min2 rfl) (by rfl) T.z_min (by decide +kernel) (pa_cons (pv 4) (pa_cons (pv 5) pa_nil)))) (po_some (pe_op op_plus (pe_callB (cr_max2 rfl) (by rfl) T.z_max (by decide +kernel) (pa_cons (pv 4) (pa_cons (pv 5) pa_nil))) pe_int))) pa_nil)))))
      pss_nil)
      (pss_cons (ps_if (pt_cmpR (eqQ (K := K) rfl hr.units) (pv 2) pe_int (nomark _)) (pss_cons (ps_setLc (i := 6) (own := [("one", 7)]) (by rfl) nd rfl rfl (sw_true rfl rfl rfl (by decide +kernel)) (pi_list (pv 1)) (blkOk_by (own := [("one", 7)]) (N := n_law_crew) (sc := defScope s_law_crew) (by decide +kernel)) (fun _ _ _ _ _ => (pg_name (i := 7) nd rfl (Or.inl rfl))) (fun _ _ _ _ _ => (pts_one (PW.pt (pw_or (pt_cmpR (eqQ (K := K) rfl hr.units) (pv 7) (pe_ix (ixQ (K := K) rfl) (pv 1) (pv 4) (fun _ _ => rfl)) (nomark _)) (pw_or1 (pt_cmpR (eqQ (K := K) rfl hr.units) (pe_callG (ok_law_take T) gd (hr.mono (by decide)) (by rfl) T.g_law_take T.k_law_take T.b_law_take pass0 (pa_cons (pv 0) (pa_cons pe_int pa_nil))) pe_int (nomark _))))))) (fun _ _ _ _ _ => (pv 7)))
      (pss_one (ps_ret (pe_callG (ok_law_mixed T) gd (hr.mono (by decide)) (by rfl) T.g_law_mixed T.k_law_mixed T.b_law_mixed pass0 (pa_cons (pv 0) (pa_cons (pv 6) pa_nil))))))
      pss_nil)
      (pss_one (ps_ret (pe_callG (ok_law_mixed T) gd (hr.mono (by decide)) (by rfl) T.g_law_mixed T.k_law_mixed T.b_law_mixed pass0 (pa_cons (pv 0) (pa_cons (pv 1) pa_nil))))))))))), ?_⟩
    refine q_set (α := Int) (ev_lenD (xs := ws) (ev_var rfl rv)) s fun v1 many G1 H1 e1 x1 s1 r1 => ?_
    cases r1; subst e1
    refine q_unp (α := Int) (β := Int) (P := fun p => (0 ≤ p.1 ∧ p.1 < ws.length) ∧ 0 ≤ p.2 ∧ p.2 < ws.length) (EvP.imp (ev_pair (ev_take rfl (ev_var rfl rfl) (R := fun m => m = ws.length) fun m e => by omega) (ev_take rfl (ev_var rfl rfl) (R := fun m => m = ws.length) fun m e => by omega)) fun p ⟨⟨m, e, h⟩, ⟨m', e', h'⟩⟩ => by subst e; subst e'; exact ⟨h, h'⟩) s1 fun v2 v3 at_ to G2 H2 ⟨⟨a0, a1⟩, t0, t1⟩ x2 s2 r2 r3 => ?_
    cases r2; cases r3
    simp only at a0 a1 t0 t1
    have vw : ∀ {O' G'}, Ex G2 G' → EvD (some b) O' (tVar 1) [some (V.ref b), some v, some (V.int way), some (V.int ws.length), some (V.int at_), some (V.int to), none, none] G' ws := fun e => ev_var rfl (Py.up (Ex.t x1 (Ex.t x2 e)) rv)
    have hat : ws[at_.toNat]? = some (ws[at_.toNat]'(by omega)) := List.getElem?_eq_getElem (by omega)
    have hto : ws[to.toNat]? = some (ws[to.toNat]'(by omega)) := List.getElem?_eq_getElem (by omega)
    generalize hA : ws[at_.toNat]'(by omega) = wa at hat
    generalize hB : ws[to.toNat]'(by omega) = wb at hto
    have mA : wa ∈ ws := List.mem_of_getElem? hat
    have mB : wb ∈ ws := List.mem_of_getElem? hto
    have fin : ∀ {p us r G' H'}, Crew ws r → Ex G2 G' → Sx (some b) ((p, .lst us) :: O) G' H' → All2 G' us r → Q (.ref p) H' := fun hc x s r => k _ _ _ _ _ hc (Ex.t x1 (Ex.t x2 x)) s r
    have test : ∀ {O' G' i}, EtD (some b) O' (tTest (tOp (rEqU K) (tVar 2) (tC (.int i)))) [some (V.ref b), some v, some (V.int way), some (V.int ws.length), some (V.int at_), some (V.int to), none, none] G' (decide (way = i)) := et_test (ev_op (α := Int) (β := Int) (ev_var rfl rfl) ev_int o2_eqI)
    have one : ∀ {z : Str}, z ∈ ws → Crew ws [z] := fun h => ⟨by simp, by simp, fun x hx => by rw [List.mem_singleton.mp hx]; exact h⟩
    refine q_when test s2 (fun G3 H3 c x3 s3 => ?_) fun G3 H3 c x3 s3 => ?_
    · exact s_retN (P := fun r => r = [wa]) (en_lstD (el_cons (ev_op (α := List Str) (β := Int) (vw x3) (ev_var rfl rfl) (o2_ixL a0 hat)) el_nil) (by simp)) s3 fun p us r G' H' hr x s rr => fin (by rw [hr]; exact one mA) (Ex.t x3 x) s rr
    refine q_when test s3 (fun G4 H4 c x4 s4 => ?_) fun G4 H4 c x4 s4 => ?_
    · have x24 := Ex.t x3 x4
      refine s_retN (P := fun r => Crew ws r) ?_ s4 fun p us r G' H' hr x s rr => fin hr (Ex.t x24 x) s rr
      refine EvN.imp (P := fun r => r = [wa] ++ (List.replicate (b2n (!decide (to = at_))).toNat [wb]).flatten) ?_ fun r e => ?_
      · refine en_op (α := List Str) (β := List Str) (EvN.still ?_) (EvN.still ?_) (o2_addL ?_)
        · exact en_lstD (el_cons (ev_op (α := List Str) (β := Int) (vw x24) (ev_var rfl rfl) (o2_ixL a0 hat)) el_nil) (by simp)
        · refine en_op (α := List Str) (β := Int) (EvN.still ?_) (ev_intB (ev_op (α := Int) (β := Int) (ev_var rfl rfl) (ev_var rfl rfl) o2_neI)) (o2_mulL ?_ ?_ ?_)
          · exact en_lstD (el_cons (ev_op (α := List Str) (β := Int) (vw x24) (ev_var rfl rfl) (o2_ixL t0 hto)) el_nil) (by simp)
          · cases (!decide (to = at_)) <;> simp [b2n]
          · cases (!decide (to = at_)) <;> simp [b2n]
          · cases (!decide (to = at_)) <;> simp [b2n]
        · cases (!decide (to = at_)) <;> simp [b2n]
      · subst e
        by_cases e : to = at_
        · rw [decide_eq_true e]
          exact one mA
        · rw [decide_eq_false e]
          refine ⟨by simp, ?_, fun x hx => ?_⟩
          · show ([wa] ++ [wb]).Nodup
            have : wa ≠ wb := fun q => by
              rw [← hA, ← hB] at q
              have := (List.getElem_inj hnd).mp q
              omega
            simp [this]
          · have hx' : x ∈ [wa, wb] := hx
            simp only [List.mem_cons, List.not_mem_nil, or_false] at hx'
            rcases hx' with rfl | rfl
            · exact mA
            · exact mB
    refine q_when test s4 (fun G5 H5 c x5 s5 => ?_) fun G5 H5 c x5 s5 => ?_
    · have x25 := Ex.t x3 (Ex.t x4 x5)
      have lo : 0 ≤ min at_ to := by omega
      refine s_retN (P := fun r => Crew ws r) (EvN.imp (en_mixed (R := fun r => r = cutL ws (some (min at_ to)) (some (max at_ to + 1))) rfl (EvN.still (en_cut (vw x25) (eo_some ?_) (eo_some ?_))) fun xs e => ?_) fun r ⟨xs, e, pm⟩ => ?_) s5 fun p us r G' H' hr x s rr => fin hr (Ex.t x25 x) s rr
      · exact ev_min2 (ev_var rfl rfl) (ev_var rfl rfl)
      · exact ev_op (α := Int) (β := Int) (ev_max2 (ev_var rfl rfl) (ev_var rfl rfl)) ev_int o2_addI
      · have := (cutL_sub ws (some (min at_ to)) (some (max at_ to + 1))).length_le
        rw [e]
        omega
      · subst e
        refine crew_perm (crew_sub hnd (cutL_sub _ _ _) fun e => ?_) pm
        have h1 : min at_ to = (((min at_ to).toNat : Nat) : Int) := by omega
        have h2 : max at_ to + 1 = (((max at_ to + 1).toNat : Nat) : Int) := by omega
        have := congrArg List.length e
        rw [h1, h2] at this
        unfold cutL at this
        rw [HT.sIx_nat, HT.sIx_nat, List.length_take, List.length_drop, List.length_nil] at this
        omega
    refine q_when test s5 (fun G6 H6 c x6 s6 => ?_) fun G6 H6 c x6 s6 => ?_
    · have x26 := Ex.t x3 (Ex.t x4 (Ex.t x5 x6))
      refine q_setN (α := Str) (P := fun r => r.Sublist ws ∧ wa ∈ r) (EvN.imp (en_lcS (fun x c => c = false → x ≠ wa) (fun x y => y = x) (vw x26) (fun xs e => by rw [e]; omega) fun xs x u G7 H7 O7 Q' e hx x7 s7 ru k => g_name (k _ rfl (EvT.imp (et_orP (P := fun c => c = decide (x = wa)) (R := fun _ => True) (et_test ?_) fun _ => et_test ?_) ?_) fun _ G8 x8 => ev_var rfl (Py.up x8 ru))) fun r ⟨xs, e, hs⟩ => ?_) s6 fun l us r G7 H7 hr x7 s7 rr => ?_
      · exact ev_op (α := Str) (β := Str) (ev_var rfl ru) (ev_op (α := List Str) (β := Int) (ev_var rfl (Py.up (Ex.t (Ex.t x1 (Ex.t x2 x26)) x7) rv)) (ev_var rfl rfl) (o2_ixL a0 hat)) o2_eqS
      · exact EvP.imp (ev_opP (α := Int) (β := Int) (S := fun _ => True) (ev_takeD rfl ev_int) (P := fun r => 0 ≤ r ∧ r < 3) (R := fun r => r = 0) ev_int fun x y _ _ => o2_eqI.imp fun _ _ => trivial) fun _ _ => trivial
      · intro c hc e
        subst e
        rcases hc with ⟨h, _⟩ | ⟨h, _⟩
        · cases h
        · exact of_decide_eq_false h.symm
      · subst e
        exact ⟨sel_sub hs, sel_in hs (fun h => h rfl rfl) mA⟩
      · obtain ⟨G8, x8, s8, r8⟩ := s7.rest rr
        refine s_retN (P := fun r => Crew ws r) (EvN.imp (en_mixed (R := fun q => q = r) rfl (ev_var rfl r8) fun xs e => ?_) fun q ⟨xs, e, pm⟩ => ?_) s8 fun p us r G' H' hr x s rr => fin hr (Ex.t x26 (Ex.t x7 (Ex.t x8 x))) s rr
        · rw [e]
          have := hr.1.length_le
          omega
        · subst e
          exact crew_perm (crew_sub hnd hr.1 fun e => by rw [e] at hr; exact absurd hr.2 (by simp)) pm
    · have x26 := Ex.t x3 (Ex.t x4 (Ex.t x5 x6))
      refine s_retN (P := fun r => Crew ws r) (EvN.imp (en_mixed (R := fun q => q = ws) rfl (vw x26) fun xs e => by rw [e]; omega) fun q ⟨xs, e, pm⟩ => ?_) s6 fun p us r G' H' hr x s rr => fin hr (Ex.t x26 x) s rr
      subst e
      exact crew_perm (crew_sub hnd (.refl _) hne) pm
end
end My

set_option Elab.async false
set_option linter.all false
set_option maxRecDepth 100000
set_option maxHeartbeats 4000000
namespace My
open PySem PySem.Spec PyProof.Rows L2 Dk
open Evl (Ex)
open Dk.Py (rp)
open Dk.PyD (pic)
/-- workers, and desks with their crews -/
abbrev PT := List Str × List (Str × List Str)
structure Parts (most desks : Nat) (p : PT) : Prop where
  w1 : 1 ≤ p.1.length
  w2 : p.1.length ≤ most
  wnd : p.1.Nodup
  wnm : ∀ x ∈ p.1, Nm x
  d2 : p.2.length ≤ desks
  dnd : (p.2.map (·.1)).Nodup
  dnm : ∀ d ∈ p.2, Nm d.1
  dcr : ∀ d ∈ p.2, Crew p.1 d.2
theorem nm_ok {x : Str} (h : Nm x) : okS x := fun c hc => by have := h.2.2 c hc; omega
theorem crew_to {ws ws' r : List Str} (h : Crew ws r) (p : ws'.Perm ws) : Crew ws' r := ⟨h.1, h.2.1, fun x hx => p.mem_iff.mpr (h.2.2 x hx)⟩
theorem parts_perm {most desks : Nat} {ws ws' : List Str} {ds ds' : List (Str × List Str)} (h : Parts most desks (ws, ds)) (pw : ws'.Perm ws) (pd : ds'.Perm ds) : Parts most desks (ws', ds') where
  w1 := by have := h.w1; show 1 ≤ ws'.length; rw [pw.length_eq]; exact this
  w2 := by have := h.w2; show ws'.length ≤ most; rw [pw.length_eq]; exact this
  wnd := pw.nodup_iff.mpr h.wnd
  wnm := fun x hx => h.wnm x (pw.mem_iff.mp hx)
  d2 := by have := h.d2; show ds'.length ≤ desks; rw [pd.length_eq]; exact this
  dnd := (pd.map _).nodup_iff.mpr h.dnd
  dnm := fun d hd => h.dnm d (pd.mem_iff.mp hd)
  dcr := fun d hd => crew_to (h.dcr d (pd.mem_iff.mp hd)) pw
theorem set_last {α : Type} {xs : List α} {a : α} (h : xs[xs.length - 1]? = some a) (b : α) : xs.set (xs.length - 1) b = xs.dropLast ++ [b] := by
  have hne : xs ≠ [] := fun e => by subst e; simp at h
  conv => lhs; rw [← List.dropLast_concat_getLast hne]
  rw [List.length_append, List.length_singleton, Nat.add_sub_cancel, List.set_append_right _ _ (Nat.le_refl _), Nat.sub_self]
  rfl
theorem last_split {α : Type} {xs : List α} {a : α} (h : xs[xs.length - 1]? = some a) : xs = xs.dropLast ++ [a] := by
  have hne : xs ≠ [] := fun e => by subst e; simp at h
  have : xs.getLast hne = a := by
    have := List.getLast?_eq_some_getLast hne
    rw [List.getLast?_eq_getElem?, h] at this
    exact (Option.some.inj this).symm
  rw [← this, List.dropLast_concat_getLast]
section
variable {P : Program} {w : World} {K : PySem.W.Frag} {mg : Str → Option Value} {base : Heap}
def spParts : Sp := SpF (b2 (α := Int) (β := Int)) (fun a => 1 ≤ a.1 ∧ a.1 ≤ 70 ∧ 0 ≤ a.2 ∧ a.2 ≤ 70) (fun a (r : PT) => Parts a.1.toNat a.2.toNat r)
theorem ok_law_parts (T : Tx K mg) : FnG P w K mg base CX0 4 T.a_law_parts T.d_law_parts p_law_parts spParts := by
  refine okN T.f_law_parts sc_law_parts (fun vs H Q E h => ?_) (fun cdv A outer s H vs Q E gd hr h => ?_)
  · obtain ⟨B, O, G, a, s, ⟨b, v, u, rfl, rfl, rv, ru⟩, hm, k⟩ := h
    rfl
  · obtain ⟨B, O, G, ⟨most, desks⟩, s, ⟨b, v, u, rfl, rfl, rv, ru⟩, ⟨hm1, hm2, hd1, hd2⟩, k⟩ := h
    cases rv; cases ru
    simp only at hm1 hm2 hd1 hd2
    have nd := sc_law_parts.nd
    have hu := hu_of hr
    refine ⟨_, (pss_cons (ps_set (i := 3) nd rfl (Or.inl rfl) (pe_op op_plus pe_int (pe_callG (ok_law_take T) gd (hr.mono (by decide)) (by rfl) T.g_law_take T.k_law_take T.b_law_take pass0 (pa_cons (pv 0) (pa_cons (pv 1) pa_nil)))))
      (pss_cons (ps_set (i := 4) nd rfl (Or.inl rfl) (pe_callG (ok_law_names T) gd (hr.mono (by decide)) (by rfl) T.g_law_names T.k_law_names T.b_law_names pass0 (pa_cons (pv 0) (pa_cons (pv 3) pa_nil))))
      (pss_cons (ps_set (i := 5) nd rfl (Or.inl rfl) (pe_callG (ok_law_names T) gd (hr.mono (by decide)) (by rfl) T.g_law_names T.k_law_names T.b_law_names pass0 (pa_cons (pv 0) (pa_cons (pe_callG (ok_law_take T) gd (hr.mono (by decide)) (by rfl) T.g_law_take T.k_law_take T.b_law_take pass0 (pa_cons (pv 0) (pa_cons (pe_op op_plus (pv 2) pe_int) pa_nil))) pa_nil))))
      (pss_cons (ps_set (i := 6) nd rfl (Or.inl rfl) (pe_callG (ok_law_take T) gd (hr.mono (by decide)) (by rfl) T.g_law_take T.k_law_take T.b_law_take pass0 (pa_cons (pv 0) (pa_cons pe_int pa_nil))))
      (pss_cons (ps_set (i := 7) nd rfl (Or.inl rfl) (pe_lst pa_nil))
      (pss_cons (ps_for PassesOwn.never rfl (pi_enum (by rfl) T.z_enumerate (pa_cons (pv 5) pa_nil)) (pg_tupQ (K := K) rfl (pg_tup (by rfl) (pgs_cons (pg_name (i := 8) nd rfl (Or.inl rfl)) (pgs_cons (pg_name (i := 9) nd rfl (Or.inl rfl)) pgs_nil))))
      (pss_cons (ps_set (i := 10) nd rfl (Or.inl rfl) (pe_ix (ixQ (K := K) rfl) (pe_lst (pa_cons (pe_callG (ok_law_take T) gd (hr.mono (by decide)) (by rfl) T.g_law_take T.k_law_take T.b_law_take pass0 (pa_cons (pv 0) (pa_cons pe_int pa_nil))) (pa_cons (pe_callG (ok_law_take T) gd (hr.mono (by decide)) (by rfl) T.g_law_take T.k_law_take T.b_law_take pass0 (pa_cons (pv 0) (pa_cons pe_int pa_nil))) (pa_cons pe_int (pa_cons pe_int (pa_cons pe_int (pa_cons (pe_callTy cr_int (by rfl) T.z_int (by decide +kernel) (pa_cons (pe_cmpR op_ge (pv 8) (pv 3) (nomark _)) pa_nil)) pa_nil))))))) (pv 6) (fun _ _ => rfl)))
      (pss_cons (ps_set (i := 11) nd rfl (Or.inl rfl) (pe_callG (ok_law_crew T) gd (hr.mono (by decide)) (by rfl) T.g_law_crew T.k_law_crew T.b_law_crew pass0 (pa_cons (pv 0) (pa_cons (pv 4) (pa_cons (pv 10) pa_nil)))))
      (pss_cons (ps_if (PW.pt (pw_and (pt_cmpR (eqQ (K := K) rfl hr.units) (pv 6) pe_int (nomark _)) (pw_and1 (pt_cmpR op_lt (pv 8) (pv 3) (nomark _))))) (pss_one (ps_set (i := 11) nd rfl (Or.inl rfl) (pe_lst (pa_cons (pe_ix (ixQ (K := K) rfl) (pv 4) (pv 8) (fun _ _ => rfl)) pa_nil))))
      pss_nil)
      (pss_one (ps_expr (pe_bm PySem.F.plainAttrs_list PySem.F.slot_list_append PySem.F.type_list_append mt_append (pv 7) (pa_cons (pe_tup (pa_cons (pv 9) (pa_cons (pv 11) pa_nil))) pa_nil))))))))
      (pss_cons (ps_if (PW.pt (pw_and (pt_cmpR op_gt (pe_callB (lenQ (K := K) rfl) (by rfl) T.z_len (by decide +kernel) (pa_cons (pv 7) pa_nil)) pe_int (nomark _)) (pw_and1 (pt_cmpR (eqQ (K := K) rfl hr.units) (pe_callG (ok_law_take T) gd (hr.mono (by decide)) (by rfl) T.g_law_take T.k_law_take T.b_law_take pass0 (pa_cons (pv 0) (pa_cons pe_int pa_nil))) pe_int (nomark _))))) (pss_one (ps_asg (pe_tup (pa_cons (pe_ix (ixQ (K := K) rfl) (pe_ix (ixQ (K := K) rfl) (pv 7) (pe_un un_neg pe_int) (fun _ _ => rfl)) pe_int (fun _ _ => rfl)) (pa_cons (pe_callG (ok_law_mixed T) gd (hr.mono (by decide)) (by rfl) T.g_law_mixed T.k_law_mixed T.b_law_mixed pass0 (pa_cons (pv 0) (pa_cons (pe_ix (ixQ (K := K) rfl) (pe_ix (ixQ (K := K) rfl) (pv 7) pe_int (fun _ _ => rfl)) pe_int (fun _ _ => rfl)) pa_nil))) pa_nil))) (pg_sub (pv 7) (pe_un un_neg pe_int) set_list)))
      pss_nil)
      (pss_one (ps_ret (pe_tup (pa_cons (pe_callG (ok_law_mixed T) gd (hr.mono (by decide)) (by rfl) T.g_law_mixed T.k_law_mixed T.b_law_mixed pass0 (pa_cons (pv 0) (pa_cons (pv 4) pa_nil))) (pa_cons (pe_callG (ok_law_mixed T) gd (hr.mono (by decide)) (by rfl) T.g_law_mixed T.k_law_mixed T.b_law_mixed pass0 (pa_cons (pv 0) (pa_cons (pv 7) pa_nil))) pa_nil)))))))))))), ?_⟩
    refine q_set (α := Int) (P := fun z => 1 ≤ z ∧ z ≤ most) (ev_opP (α := Int) (β := Int) (P := fun z => z = 1) (R := fun z => 0 ≤ z ∧ z < most) ev_int (EvP.imp (ev_take (R := fun m => m = most) rfl (ev_var rfl rfl) fun m e => by omega) fun r ⟨m, e, h⟩ => e ▸ h) fun x y e h => o2_addI.imp fun z hz => by omega) s fun v1 many G1 H1 e1 x1 s1 r1 => ?_
    cases r1
    refine q_set (α := List Str) (P := fun r => Names many.toNat r) (EvP.imp (EvN.still (en_names (R := fun m => m = many) rfl (ev_var rfl rfl) fun m e => by omega)) fun r ⟨m, e, h⟩ => e ▸ h) s1 fun vw ws G2 H2 hw x2 s2 rw => ?_
    refine q_set (α := List Str) (P := fun r => ∃ n : Nat, (n : Int) ≤ desks ∧ Names n r) (EvP.imp (EvN.still (en_names (R := fun m => 0 ≤ m ∧ m ≤ desks) rfl (EvP.imp (ev_take (R := fun m => m = desks + 1) rfl (ev_op (α := Int) (β := Int) (ev_var rfl rfl) ev_int o2_addI) fun m e => by omega) fun r ⟨m, e, h⟩ => by omega) fun m e => by omega)) fun r ⟨m, e, h⟩ => ⟨m.toNat, by omega, h⟩) s2 fun vn ns G3 H3 hn x3 s3 rn => ?_
    obtain ⟨nn, hnn, hn⟩ := hn
    refine q_set (α := Int) (P := fun z => 0 ≤ z ∧ z < 6) (ev_takeD rfl ev_int) s3 fun v4 style G4 H4 e4 x4 s4 r4 => ?_
    cases r4
    refine q_setN (α := Str × List Str) (en_lstD el_nil (by simp)) s4 fun l ls0 ys0 G5 H5 e5 x5 s5 r5 => ?_
    subst e5
    cases r5
    have x45 := Ex.t x4 x5
    refine q_forE (α := Str) (P := fun r => r = ns) (ev_var rfl (Py.up x45 rn)) s5 (fun xs i σ' G' O' => ∃ (k n wy cr : Option V) (ls : List V) (ys : List (Str × List Str)), σ' = [some (.ref b), some (.int most), some (.int desks), some (.int many), some vw, some vn, some (.int style), some (.ref l), k, n, wy, cr] ∧ O' = (l, .lst ls) :: O ∧ All2 G' ls ys ∧ ys.map (·.1) = xs.take i ∧ ∀ d ∈ ys, Crew ws d.2)
      (fun xs G2 e e2 => ⟨none, none, none, none, [], [], rfl, rfl, .nil, rfl, fun d h => by simp at h⟩) (fun xs i σ2 G3 G2 O2 e ⟨k, n, wy, cr, ls, ys, h1, h2, h3, h4, h5⟩ => ⟨k, n, wy, cr, ls, ys, h1, h2, all2_up e h3, h4, h5⟩) ?_ ?_
    · rintro xs G6 i nm v6 σ' G7 H7 O' rfl x6 hx x7 s7 r6 ⟨k', n', wy, cr, ls, ys, rfl, rfl, ra, hk, hc⟩
      refine g_pair r6 s7 fun vk vnm rk rnm => ?_
      cases rk; cases rnm
      have x57 := Ex.t x6 x7
      have llen : ls.length ≤ 1000000 := by
        have h1 := all2_len ra
        have h2 := congrArg List.length hk
        rw [List.length_map, List.length_take] at h2
        have := hn.1
        omega
      have x17 : Ex G2 G7 := Ex.t x3 (Ex.t x4 (Ex.t x5 (Ex.t x6 x7)))
      refine q_set (α := Int) (P := fun _ => True) (ev_opP (α := List Int) (β := Int) (P := fun l => l.length = 6) (R := fun z => z = style) (EvP.imp (P := fun xs => xs.length = 6) (EvN.still (EvN.imp (en_lst (el_consP (ev_takeD rfl ev_int) (el_consP (ev_takeD rfl ev_int) (el_consP ev_int (el_consP ev_int (el_consP ev_int (el_consP (ev_intB (ev_op (α := Int) (β := Int) (ev_var (a := (i : Int)) rfl rfl) (ev_var rfl rfl) o2_ge)) el_nil)))))) fun xs h => ?_) fun xs h => ?_)) fun xs h => h) (ev_var rfl rfl) fun x y hx e => (o2_ixL (by omega) (List.getElem?_eq_getElem (show y.toNat < x.length by omega))).imp fun _ _ => trivial) s7 fun v8 wy8 G8 H8 _ x8 s8 r8 => ?_
      · obtain ⟨_, _, rfl, _, _, _, rfl, _, _, _, rfl, _, _, _, rfl, _, _, _, rfl, _, _, _, rfl, _, h⟩ := h
        have h : _ = [] := h
        subst h
        simp
      · obtain ⟨_, _, rfl, _, _, _, rfl, _, _, _, rfl, _, _, _, rfl, _, _, _, rfl, _, _, _, rfl, _, h⟩ := h
        have h : _ = [] := h
        subst h
        rfl
      cases r8
      have x18 := Ex.t x17 x8
      refine q_set (α := List Str) (P := fun r => Crew ws r) (EvP.imp (EvN.still (en_callP (A := List Str × Int) (P := fun a => a.1 = ws) (EvA.imp (eb_2P (P := fun a => a = ws) (R := fun _ => True) rfl (ev_var rfl (Py.up x18 rw)) (EvP.imp (ev_var (a := wy8) rfl rfl) fun _ _ => trivial)) fun a h => h.1) fun a h => ?_)) fun r ⟨a, e, h⟩ => e ▸ h) s8 fun v9 crw G9 H9 hc9 x9 s9 r9 => ?_
      · rw [h]
        refine ⟨fun e => ?_, by have := hw.1; omega, hw.2.1, fun x hx => nm_ok (hw.2.2 x hx)⟩
        have := hw.1
        rw [e, List.length_nil] at this
        omega
      have x79 := Ex.t x8 x9
      refine with_tail (fun σ' H' => ∃ v10 cr10 G10, Crew ws cr10 ∧ Ex G9 G10 ∧ Sx (some b) ((l, .lst ls) :: O) G10 H' ∧ rp G10 v10 cr10 ∧ σ' = [some (.ref b), some (.int most), some (.int desks), some (.int many), some vw, some vn, some (.int style), some (.ref l), some (.int (i : Int)), some (.str nm), some (.int wy8), some v10]) (fun tail => ?_) fun σ' H' ⟨v10, cr10, G10, hc10, x10, s10, r10, e⟩ => ?_
      · refine q_when (et_and (et_test (ev_op (α := Int) (β := Int) (ev_var rfl rfl) ev_int o2_eqI)) fun _ => et_test (ev_op (α := Int) (β := Int) (ev_var (a := (i : Int)) rfl rfl) (ev_var rfl rfl) o2_lt)) s9 (fun G10 H10 c x10 s10 => ?_) fun G10 H10 c x10 s10 => ?_
        · have c2 : (i : Int) < many := by
            have c := c.symm
            rw [Bool.and_eq_true, decide_eq_true_eq, decide_eq_true_eq] at c
            exact c.2
          have hl : i < ws.length := by have := hw.1; omega
          refine q_set (α := List Str) (P := fun r => r = [ws[i]]) (EvN.still (en_lstD (el_cons (ev_op (α := List Str) (β := Int) (ev_var rfl (Py.up (Ex.t x18 (Ex.t x9 x10)) rw)) (ev_var (a := (i : Int)) rfl rfl) (o2_ixL (by omega) (List.getElem?_eq_getElem hl))) el_nil) (by simp))) s10 fun v11 cr G11 H11 hcr x11 s11 r11 => ?_
          exact tail _ _ ⟨v11, cr, G11, by rw [hcr]; exact ⟨by simp, by simp, fun x hx => by rw [List.mem_singleton.mp hx]; exact List.getElem_mem ..⟩, Ex.t x10 x11, s11, r11, rfl⟩
        · exact tail _ _ ⟨v9, crw, G10, hc9, x10, s10, Py.up x10 r9, rfl⟩
      · subst e
        refine s_app (α := Str × List Str) (P := fun p => p = (nm, cr10)) rfl (ev_pairD (ev_var rfl rfl) (ev_var rfl r10)) s10 llen fun v11 pr G11 H11 e11 x11 s11 r11 => ?_
        have x711 := Ex.t x79 (Ex.t x10 x11)
        refine ⟨G11, (l, .lst (ls ++ [v11])) :: O, Ex.t x7 x711, s11, some (.int (i : Int)), some (.str nm), some (.int wy8), some v10, ls ++ [v11], ys ++ [pr], rfl, rfl, all2_app (all2_up x711 ra) (.cons r11 .nil), ?_, ?_⟩
        · rw [List.map_append, hk, e11]
          exact (take_snoc hx).symm
        · intro d hd
          rcases List.mem_append.mp hd with hd | hd
          · exact hc d hd
          · rw [List.mem_singleton.mp hd, e11]
            exact hc10
    · rintro ns σ' G6 H6 O' rfl x6 s6 ⟨k', n', wy, cr, ls, ys, rfl, rfl, ra, hk, hc⟩
      rw [List.take_length] at hk
      have hl1 := all2_len ra
      have hl2 : ys.length = ns.length := by rw [← hk, List.length_map]
      have x16 : Ex G2 G6 := Ex.t x3 (Ex.t x4 (Ex.t x5 x6))
      refine with_tail (fun σ' H' => ∃ (ls2 : List V) (ys2 : List (Str × List Str)) (G7 : Hp), Ex G6 G7 ∧ Sx (some b) ((l, .lst ls2) :: O) G7 H' ∧ All2 G7 ls2 ys2 ∧ ys2.map (·.1) = ns ∧ (∀ d ∈ ys2, Crew ws d.2) ∧ σ' = [some (.ref b), some (.int most), some (.int desks), some (.int many), some vw, some vn, some (.int style), some (.ref l), k', n', wy, cr]) (fun tail => ?_) fun σ' H' ⟨ls2, ys2, G7, x7, s7, r7, hk7, hc7, e⟩ => ?_
      · refine q_when (et_andP (P := fun c => c = true → 1 < ys.length) (R := fun _ => True) ?_ ?_) s6 (fun G7 H7 c x7 s7 => ?_) fun G7 H7 c x7 s7 => ?_
        · exact (et_test (ev_op (α := Int) (β := Int) (ev_lenOwn (List.mem_cons_self ..) rfl) ev_int o2_gt)).imp fun c e h => by
            rw [h] at e
            have := of_decide_eq_true e.symm
            omega
        · exact fun _ => (et_test (ev_opP (α := Int) (β := Int) (P := fun _ => True) (R := fun z => z = 0) ((ev_takeD rfl ev_int).imp fun _ _ => trivial) ev_int fun x y _ e => o2_eqI.imp fun _ _ => trivial))
        · obtain ⟨c0, _⟩ | ⟨c1, _⟩ := c
          · cases c0
          have c1 := c1 rfl
          have hlast : ys[ys.length - 1]? = some (ys[ys.length - 1]'(by omega)) := List.getElem?_eq_getElem _
          have hfst : ys[(0 : Int).toNat]? = some (ys[0]'(by omega)) := List.getElem?_eq_getElem _
          generalize ys[ys.length - 1]'(by omega) = pl at hlast
          generalize ys[0]'(by omega) = pf at hfst
          have mf : pf ∈ ys := List.mem_of_getElem? hfst
          have ml : pl ∈ ys := List.mem_of_getElem? hlast
          have r7 : All2 G7 ls ys := all2_up x7 ra
          have hlc : ∀ xs, xs = pf.2 → xs.length ≤ 1000 := fun xs e => by
            rw [e]
            have := crew_len (hc pf mf)
            have := hw.1
            omega
          have ixF : ∀ {G8}, Ex G7 G8 → EvD (some b) ((l, .lst ls) :: O) (tOp (rIx K) (tVar 7) (tC (.int 0))) [some (V.ref b), some (V.int most), some (V.int desks), some (V.int many), some vw, some vn, some (V.int style), some (V.ref l), k', n', wy, cr] G8 pf := fun x8 => ev_ixOwn (i := 7) (List.mem_cons_self ..) rfl (all2_up x8 r7) ev_int (by decide) hfst
          refine s_putLast (α := Str × List Str) (P := fun p => p.1 = pl.1 ∧ Crew ws p.2) rfl (EvP.imp (ev_pair (P := fun z => z = pl.1) (ev_op (α := Str × List Str) (β := Int) (ev_ixOwnLast (List.mem_cons_self ..) rfl r7 (ev_neg ev_int) hlast) ev_int o2_ix0) (EvN.still (en_mixed (R := fun xs => xs = pf.2) rfl (ev_op (α := Str × List Str) (β := Int) (ixF Ex.r) ev_int o2_ix1) hlc))) fun p ⟨e, xs, e2, h⟩ => ⟨e, crew_perm (hc pf mf) (e2 ▸ h)⟩) (fun _ _ => ev_neg ev_int) (fun e => ?_) s7 fun v8 p8 G8 H8 ⟨e8, h8⟩ x8 s8 r8 => ?_
          · rw [e] at hl1
            simp at hl1
            omega
          · refine tail _ _ ⟨_, ys.set (ys.length - 1) p8, G8, Ex.t x7 x8, s8, ?_, ?_, ?_, rfl⟩
            · rw [hl1]
              exact all2_set _ (all2_up x8 r7) r8
            · rw [set_last hlast, List.map_append, ← hk]
              conv => rhs; rw [last_split hlast, List.map_append]
              rw [List.map_singleton, List.map_singleton, e8]
            · intro d hd
              rw [set_last hlast] at hd
              rcases List.mem_append.mp hd with hd | hd
              · exact hc d (List.dropLast_subset _ hd)
              · rw [List.mem_singleton.mp hd]
                exact h8
        · exact tail _ _ ⟨ls, ys, G7, x7, s7, all2_up x7 ra, hk, hc, rfl⟩
      · subst e
        obtain ⟨G8, x8, s8, r8⟩ := s7.rest r7
        have x18 : Ex G2 G8 := Ex.t x16 (Ex.t x7 x8)
        refine s_ret (α := PT) (P := fun p => p.1.Perm ws ∧ p.2.Perm ys2) (EvP.imp (ev_pair (EvN.still (en_mixed (R := fun xs => xs = ws) rfl (ev_var rfl (Py.up x18 rw)) fun xs e => ?_)) (EvN.still (en_mixed (R := fun xs => xs = ys2) rfl (ev_var rfl r8) fun xs e => ?_))) fun p ⟨⟨a, e, h⟩, ⟨c, e', h'⟩⟩ => ⟨e ▸ h, e' ▸ h'⟩) s8 fun v r G9 H9 ⟨p1, p2⟩ x9 s9 r9 => k v r G9 H9 ?_ (Ex.t x1 (Ex.t x2 (Ex.t x18 x9))) s9 r9
        · rw [e]; have := hw.1; omega
        · rw [e]
          have := congrArg List.length hk7
          rw [List.length_map] at this
          have := hn.1
          omega
        · have hd2' : ys2.length = nn := by
            have := congrArg List.length hk7
            rw [List.length_map] at this
            have := hn.1
            omega
          refine parts_perm (ws := ws) (ds := ys2) ⟨?_, ?_, hw.2.1, hw.2.2, ?_, ?_, ?_, hc7⟩ p1 p2
          · have := hw.1; show 1 ≤ ws.length; omega
          · have := hw.1; show ws.length ≤ most.toNat; omega
          · show ys2.length ≤ desks.toNat; omega
          · show (ys2.map (·.1)).Nodup
            rw [hk7]
            exact hn.2.1
          · intro d hd
            refine hn.2.2 d.1 ?_
            rw [← hk7]
            exact List.mem_map_of_mem hd
end
end My

set_option Elab.async false
set_option linter.all false
set_option maxRecDepth 100000
set_option maxHeartbeats 4000000
namespace My
open PySem PySem.Spec PyProof.Rows L2 Dk
open Evl (Ex)
open Dk.Py (rp)
open Dk.PyD (pic)
theorem letters_in {c : Nat} (h1 : 97 ≤ c) (h2 : c ≤ 122) : c ∈ abc.cps.toList := by
  have := abc_at (c - 97) (by omega)
  rw [show 97 + (c - 97) = c by omega] at this
  exact List.mem_of_getElem? this
section
variable {P : Program} {w : World} {K : PySem.W.Frag} {mg : Str → Option Value} {base : Heap}
def spIsName : Sp := SpF (a1 (α := Str)) Nm (fun _ (r : Bool) => r = true)
theorem ok_is_name (T : Tx K mg) : FnOk P w K mg base CX0 1 T.a_is_name T.d_is_name p_is_name spIsName := by
  refine okF T.f_is_name sc_is_name (fun vs H Q E h => ?_) (fun cdv A outer s H vs Q E hr h => ?_)
  · obtain ⟨B, O, G, a, s, ⟨v, rfl, rv⟩, hm, k⟩ := h
    rfl
  · obtain ⟨B, O, G, z, s, ⟨v, rfl, rv⟩, hm, k⟩ := h
    cases rv
    have nd := sc_is_name.nd
    have hu := hu_of hr
    refine ⟨_, (pss_cons (ps_if (PW.pt (pw_or (pt_not (pt_val (pe_callB (isiQ (K := K) rfl) (by rfl) T.z_isinstance (by decide +kernel) (pa_cons (pv 0) (pa_cons (pe_bltn (v := .ty "str") (by rfl) T.z_str (by decide +kernel) rfl) pa_nil))))) (pw_or1 (pt_not (pt_chain op_le op_le pe_int (pe_callB (lenQ (K := K) rfl) (by rfl) T.z_len (by decide +kernel) (pa_cons (pv 0) pa_nil)) (pe_glob (v := .int 8) (by rfl) T.gk_LONGEST_NAME.2 ⟨_, rfl⟩)))))) (pss_one (ps_ret pe_bl))
      pss_nil)
      (pss_one (ps_ret (pe_callB (allQ (K := K) rfl rfl) (by rfl) T.z_all (by decide +kernel) (pa_cons (pe_lc (own := [("letter", 1)]) (by rfl) nd (pi_str (pv 0)) (blkOk_by (own := [("letter", 1)]) (N := n_is_name) (sc := defScope s_is_name) (by decide +kernel)) (fun _ _ _ _ _ => (pg_name (i := 1) nd rfl (Or.inl rfl))) (fun _ _ _ _ _ => pts_nil) (fun _ _ _ _ _ => (pe_cmpR (inQ (K := K) rfl) (pv 1) (pe_glob (v := .str (Str.ofString "abcdefghijklmnopqrstuvwxyz")) (by rfl) T.gk_LETTERS.2 ⟨_, rfl⟩) (by rfl)))) pa_nil))))), ?_⟩
    obtain ⟨h1, h2, h3⟩ := hm
    refine q_when (P := fun c => c = false) (EvT.imp (et_or (et_no (et_test (ev_isiS (ev_var (a := z) rfl rfl)))) fun _ => et_no (et_test (ev_chain ev_int (ev_lenS (ev_var (a := z) rfl rfl) (by omega)) o2_le (fun _ => ev_int) fun _ => o2_le))) fun c e => ?_) s (fun G1 H1 c x1 s1 => ?_) fun G1 H1 c x1 s1 => ?_
    · rw [e, decide_eq_true (by omega), decide_eq_true (by omega)]
      rfl
    · cases c
    refine s_ret (α := Bool) (P := fun c => c = true) (ev_allT (P := fun bs => ∀ b ∈ bs, b = true) (EvN.still (EvN.imp (en_lcT (β := Bool) (z := z) (fun _ => true) (fun _ r => r = true) (ev_var rfl rfl) (by omega) fun d G2 H2 O2 Q hd e s2 k => ?_) fun bs h b hb => ?_)) fun bs h => h) s1 fun v r G2 H2 e x2 s2 rv => k v r G2 H2 e (Ex.t x1 x2) s2 rv
    · refine g_name (k _ rfl et_yes fun _ => ?_)
      refine ev_op (α := Str) (β := Str) (x := ⟨#[d]⟩) (y := abc) (ev_var rfl rfl) ev_str (o2_inS.imp fun c e => ?_)
      have := h3 d hd
      rw [e]
      exact decide_eq_true (letters_in this.1 this.2)
    · obtain ⟨x, _, e⟩ := rel2_mem h hb
      exact e
theorem ev_isName {te : TE} {σ : L2.St} {G : Hp} {B : Option Addr} {O : List (Addr × HO)} {z : Str} {E : XK} (h : EvD B O te σ G z) (hn : Nm z) : EvD B O (tCall spIsName [] E (tCons te tNil)) σ G true := (ev_callP (A := Str) (ea_1 h) fun a e => e ▸ hn).imp fun r ⟨_, _, e⟩ => e
theorem nms_dd {xs : List Str} (h : xs.Nodup) : (dd (xs.map Sum.inr)).length = xs.length := by
  have : ((xs.map Sum.inr : List Key)).Nodup := by
    unfold List.Nodup at h ⊢
    rw [List.pairwise_map]
    exact h.imp fun ne e => ne (Sum.inr.inj e)
  rw [(dd_len_iff _).mpr this, List.length_map]
/-- names, none twice -/
def NmsB (n : Nat) (xs : List Str) : Prop := xs.length ≤ n ∧ xs.Nodup ∧ ∀ x ∈ xs, Nm x
def spAreNames : Sp := SpF (a1 (α := List Str)) (NmsB 4000) (fun _ (r : Bool) => r = true)
theorem ok_are_names (T : Tx K mg) : FnOk P w K mg base CX0 2 T.a_are_names T.d_are_names p_are_names spAreNames := by
  refine okF T.f_are_names sc_are_names (fun vs H Q E h => ?_) (fun cdv A outer s H vs Q E hr h => ?_)
  · obtain ⟨B, O, G, a, s, ⟨v, rfl, rv⟩, hm, k⟩ := h
    rfl
  · obtain ⟨B, O, G, xs, s, ⟨v, rfl, rv⟩, ⟨h1, h2, h3⟩, k⟩ := h
    have nd := sc_are_names.nd
    have hu := hu_of hr
    refine ⟨_, (pss_cons (ps_if (PW.pt (pw_or (pt_not (pt_val (pe_callB (isiQ (K := K) rfl) (by rfl) T.z_isinstance (by decide +kernel) (pa_cons (pv 0) (pa_cons (pe_bltn (v := .ty "list") (by rfl) T.z_list (by decide +kernel) rfl) pa_nil))))) (pw_or1 (pt_not (pt_val (pe_callB (allQ (K := K) rfl rfl) (by rfl) T.z_all (by decide +kernel) (pa_cons (pe_lc (own := [("item", 1)]) (by rfl) nd (pi_list (pv 0)) (blkOk_by (own := [("item", 1)]) (N := n_are_names) (sc := defScope s_are_names) (by decide +kernel)) (fun _ _ _ _ _ => (pg_name (i := 1) nd rfl (Or.inl rfl))) (fun _ _ _ _ _ => pts_nil) (fun _ _ _ _ _ => (pe_call (ok_is_name T) (hr.mono (by decide)) (by rfl) T.g_is_name T.k_is_name T.b_is_name .nil pass0 (pa_cons (pv 1) pa_nil)))) pa_nil))))))) (pss_one (ps_ret pe_bl))
      pss_nil)
      (pss_one (ps_ret (pe_cmpR (eqQ (K := K) rfl hr.units) (pe_callB (lenSetQ (P := P) (w := w) rfl rfl) (by rfl) T.z_len (by decide +kernel) (pa_cons (pe_callTy (setQ (K := K) (P := P) (w := w) rfl rfl rfl rfl) (by rfl) T.z_set (by decide +kernel) (pa_cons (pv 0) pa_nil)) pa_nil)) (pe_callB (lenQ (K := K) rfl) (by rfl) T.z_len (by decide +kernel) (pa_cons (pv 0) pa_nil)) (nomark _))))), ?_⟩
    refine q_when (P := fun c => c = false) (EvT.imp (et_or (et_no (et_test (ev_isiL (ev_var (a := xs) rfl rv)))) fun _ => et_no (et_test (ev_allT (P := fun bs => ∀ b ∈ bs, b = true) (EvN.still (EvN.imp (en_lc (α := Str) (β := Bool) (P := fun r => r = xs) (fun _ => true) (fun _ r => r = true) (ev_var rfl rv) (fun r e => by rw [e]; omega) fun ys x v G2 H2 O2 Q e hx e2 s2 rx k => ?_) fun bs h b hb => ?_)) fun bs h => h))) fun c e => ?_) s (fun G1 H1 c x1 s1 => ?_) fun G1 H1 c x1 s1 => ?_
    · refine g_name (k _ rfl et_yes fun _ => ?_)
      exact ev_isName (ev_var rfl rx) (h3 x (e ▸ hx))
    · obtain ⟨_, _, h⟩ := h
      obtain ⟨x, _, e⟩ := rel2_mem h hb
      exact e
    · rw [e]
      rfl
    · cases c
    refine s_ret (α := Bool) (P := fun c => c = true) (ev_op (α := Int) (β := Int) (ev_lenSet (xs := xs) (ev_var rfl (Py.up x1 rv)) ?_) (ev_lenD (xs := xs) (ev_var rfl (Py.up x1 rv))) (o2_eqI.imp fun c e => ?_)) s1 fun v r G2 H2 e x2 s2 rv => k v r G2 H2 e (Ex.t x1 x2) s2 rv
    · rw [nms_dd h2]; exact h1
    · rw [e, nms_dd h2]
      exact decide_eq_true rfl
theorem ev_areNames {te : TE} {σ : L2.St} {G : Hp} {B : Option Addr} {O : List (Addr × HO)} {xs : List Str} {E : XK} (h : EvD B O te σ G xs) (hn : NmsB 4000 xs) : EvD B O (tCall spAreNames [] E (tCons te tNil)) σ G true := (ev_callP (A := List Str) (ea_1 h) fun a e => e ▸ hn).imp fun r ⟨_, _, e⟩ => e
/-- a desk of these workers -/
structure DeskOk (ws : List Str) (d : Str × List Str) : Prop where
  nm : Nm d.1
  crew : Crew ws d.2
  names : NmsB 4000 d.2
def spIsDesk : Sp := SpF (a2 (α := List Str) (β := Str × List Str)) (fun a => DeskOk a.1 a.2) (fun _ (r : Bool) => r = true)
theorem ok_is_desk (T : Tx K mg) : FnOk P w K mg base CX0 3 T.a_is_desk T.d_is_desk p_is_desk spIsDesk := by
  refine okF T.f_is_desk sc_is_desk (fun vs H Q E h => ?_) (fun cdv A outer s H vs Q E hr h => ?_)
  · obtain ⟨B, O, G, a, s, ⟨v, u, rfl, rv, ru⟩, hm, k⟩ := h
    rfl
  · obtain ⟨B, O, G, ⟨ws, d, cr⟩, s, ⟨v, u, rfl, rv, ru⟩, ⟨h1, h2, h3⟩, k⟩ := h
    simp only at rv ru h1 h2 h3
    have nd := sc_is_desk.nd
    have hu := hu_of hr
    refine ⟨_, (pss_cons (ps_if (PW.pt (pw_or (pt_not (pt_val (pe_callB (isiQ (K := K) rfl) (by rfl) T.z_isinstance (by decide +kernel) (pa_cons (pv 1) (pa_cons (pe_bltn (v := .ty "tuple") (by rfl) T.z_tuple (by decide +kernel) rfl) pa_nil))))) (pw_or1 (pt_cmpR (neQ (K := K) rfl hr.units) (pe_callB (lenQ (K := K) rfl) (by rfl) T.z_len (by decide +kernel) (pa_cons (pv 1) pa_nil)) pe_int (nomark _))))) (pss_one (ps_ret pe_bl))
      pss_nil)
      (pss_cons (ps_asg (pv 1) (pg_tupQ (K := K) rfl (pg_tup (by rfl) (pgs_cons (pg_name (i := 2) nd rfl (Or.inl rfl)) (pgs_cons (pg_name (i := 3) nd rfl (Or.inl rfl)) pgs_nil)))))
      (pss_cons (ps_if (PW.pt (pw_or (pt_not (pt_val (pe_call (ok_is_name T) (hr.mono (by decide)) (by rfl) T.g_is_name T.k_is_name T.b_is_name .nil pass0 (pa_cons (pv 2) pa_nil)))) (pw_or (pt_not (pt_val (pe_call (ok_are_names T) (hr.mono (by decide)) (by rfl) T.g_are_names T.k_are_names T.b_are_names .nil pass0 (pa_cons (pv 3) pa_nil)))) (pw_or1 (pt_cmpR (eqQ (K := K) rfl hr.units) (pe_callB (lenQ (K := K) rfl) (by rfl) T.z_len (by decide +kernel) (pa_cons (pv 3) pa_nil)) pe_int (nomark _)))))) (pss_one (ps_ret pe_bl))
      pss_nil)
      (pss_one (ps_ret (pe_callB (allQ (K := K) rfl rfl) (by rfl) T.z_all (by decide +kernel) (pa_cons (pe_lc (own := [("worker", 4)]) (by rfl) nd (pi_list (pv 3)) (blkOk_by (own := [("worker", 4)]) (N := n_is_desk) (sc := defScope s_is_desk) (by decide +kernel)) (fun _ _ _ _ _ => (pg_name (i := 4) nd rfl (Or.inl rfl))) (fun _ _ _ _ _ => pts_nil) (fun _ _ _ _ _ => (pe_cmpR (inQ (K := K) rfl) (pv 4) (pv 0) (by rfl)))) pa_nil))))))), ?_⟩
    refine q_when (P := fun c => c = false) (EvT.imp (et_or (et_no (et_test (ev_isiP (α := Str) (β := List Str) (P := fun r => r = (d, cr)) (ev_var rfl ru)))) fun _ => et_test (ev_op (α := Int) (β := Int) (ev_lenP (α := Str) (β := List Str) (p := (d, cr)) (ev_var rfl ru)) ev_int o2_neI)) fun c e => ?_) s (fun G1 H1 c x1 s1 => ?_) fun G1 H1 c x1 s1 => ?_
    · rw [e]; rfl
    · cases c
    refine q_unp (α := Str) (β := List Str) (P := fun r => r = (d, cr)) (ev_var rfl (Py.up x1 ru)) s1 fun vd vc d' cr' G2 H2 e x2 s2 rd rc => ?_
    cases e
    cases rd
    refine q_when (P := fun c => c = false) (EvT.imp (et_or (et_no (et_test (ev_isName (ev_var rfl rfl) h1))) fun _ => et_or (et_no (et_test (ev_areNames (xs := cr) (ev_var rfl rc) h3))) fun _ => et_test (ev_op (α := Int) (β := Int) (ev_lenD (xs := cr) (ev_var rfl rc)) ev_int o2_eqI)) fun c e => ?_) s2 (fun G3 H3 c x3 s3 => ?_) fun G3 H3 c x3 s3 => ?_
    · have : (cr.length : Int) ≠ 0 := by
        have := List.length_pos_iff.mpr h2.1
        omega
      rw [e, decide_eq_false this]; rfl
    · cases c
    refine s_ret (α := Bool) (P := fun c => c = true) (ev_allT (P := fun bs => ∀ b ∈ bs, b = true) (EvN.still (EvN.imp (en_lc (α := Str) (β := Bool) (P := fun r => r = cr) (fun _ => true) (fun _ r => r = true) (ev_var rfl (Py.up x3 rc)) (fun r e => by rw [e]; have := h3.1; omega) fun ys x v G4 H4 O4 Q e hx e4 s4 rx k => ?_) fun bs h b hb => ?_)) fun bs h => h) s3 fun v r G4 H4 e x4 s4 rv => k v r G4 H4 e (Ex.t x1 (Ex.t x2 (Ex.t x3 x4))) s4 rv
    · refine g_name (k _ rfl et_yes fun _ => ?_)
      refine ev_op (α := Str) (β := List Str) (x := x) (y := ws) (ev_var rfl rx) (ev_var rfl (Py.up (Ex.t x1 (Ex.t x2 (Ex.t x3 e4))) rv)) (o2_inL.imp fun c e' => ?_)
      rw [e']
      exact decide_eq_true (h2.2.2 x (e ▸ hx))
    · obtain ⟨_, _, h⟩ := h
      obtain ⟨x, _, e⟩ := rel2_mem h hb
      exact e
end
end My

set_option Elab.async false
set_option linter.all false
set_option maxRecDepth 100000
set_option maxHeartbeats 4000000
namespace My
open PySem PySem.Spec PyProof.Rows L2 Dk
open Evl (Ex)
open Dk.Py (rp)
open Dk.PyD (pic)
/-- desks of these workers, none twice -/
structure DesksOk (ws : List Str) (ds : List (Str × List Str)) : Prop where
  len : ds.length ≤ 1000
  nd : (ds.map (·.1)).Nodup
  ok : ∀ d ∈ ds, DeskOk ws d
section
variable {P : Program} {w : World} {K : PySem.W.Frag} {mg : Str → Option Value} {base : Heap}
theorem ev_isDesk {ta tb : TE} {σ : L2.St} {G : Hp} {B : Option Addr} {O : List (Addr × HO)} {ws : List Str} {d : Str × List Str} {E : XK} (h : EvD B O ta σ G ws) (h' : EvD B O tb σ G d) (hd : DeskOk ws d) : EvD B O (tCall spIsDesk [] E (tCons ta (tCons tb tNil))) σ G true :=
  (ev_callP (A := List Str × (Str × List Str)) (ea_2 h h') fun a e => by rw [show a = (ws, d) from e]; exact hd).imp fun r ⟨_, _, e⟩ => e
def spFirstBad : Sp := SpF (a2 (α := List Str) (β := List (Str × List Str))) (fun a => DesksOk a.1 a.2) (fun _ (r : Option Int) => r = none)
theorem ok_first_bad_desk (T : Tx K mg) : FnOk P w K mg base CX0 4 T.a_first_bad_desk T.d_first_bad_desk p_first_bad_desk spFirstBad := by
  refine okF T.f_first_bad_desk sc_first_bad_desk (fun vs H Q E h => ?_) (fun cdv A outer s H vs Q E hr h => ?_)
  · obtain ⟨B, O, G, a, s, ⟨v, u, rfl, rv, ru⟩, hm, k⟩ := h
    rfl
  · obtain ⟨B, O, G, ⟨ws, ds⟩, s, ⟨v, u, rfl, rv, ru⟩, ok, k⟩ := h
    simp only at rv ru ok
    have nd := sc_first_bad_desk.nd
    have hu := hu_of hr
    refine ⟨_, (pss_cons (ps_set (i := 2) nd rfl (Or.inl rfl) (pe_lst pa_nil))
      (pss_cons (ps_for PassesOwn.never rfl (pi_enum (by rfl) T.z_enumerate (pa_cons (pv 1) pa_nil)) (pg_tupQ (K := K) rfl (pg_tup (by rfl) (pgs_cons (pg_name (i := 3) nd rfl (Or.inl rfl)) (pgs_cons (pg_name (i := 4) nd rfl (Or.inl rfl)) pgs_nil))))
      (pss_cons (ps_if (PW.pt (pw_or (pt_not (pt_val (pe_call (ok_is_desk T) (hr.mono (by decide)) (by rfl) T.g_is_desk T.k_is_desk T.b_is_desk .nil pass0 (pa_cons (pv 0) (pa_cons (pv 4) pa_nil))))) (pw_or1 (pt_cmpR (inQ (K := K) rfl) (pe_ix (ixQ (K := K) rfl) (pv 4) pe_int (fun _ _ => rfl)) (pv 2) (by rfl))))) (pss_one (ps_ret (pv 3)))
      pss_nil)
      (pss_one (ps_expr (pe_bm PySem.F.plainAttrs_list PySem.F.slot_list_append PySem.F.type_list_append mt_append (pv 2) (pa_cons (pe_ix (ixQ (K := K) rfl) (pv 4) pe_int (fun _ _ => rfl)) pa_nil))))))
      (pss_one (ps_ret pe_non)))), ?_⟩
    refine q_setN (α := Str) (en_lstD el_nil (by simp)) s fun l ls0 ys0 G1 H1 e1 x1 s1 r1 => ?_
    subst e1
    cases r1
    refine q_forE (α := Str × List Str) (P := fun r => r = ds) (ev_var rfl (Py.up x1 ru)) s1 (fun xs i σ' G' O' => ∃ (at_ it : Option V) (ls : List V), σ' = [some v, some u, some (.ref l), at_, it] ∧ O' = (l, .lst ls) :: O ∧ All2 G' ls ((xs.take i).map (·.1)))
      (fun xs G2 e e2 => ⟨none, none, [], rfl, rfl, .nil⟩) (fun xs i σ2 G3 G2 O2 e ⟨at_, it, ls, h1, h2, h3⟩ => ⟨at_, it, ls, h1, h2, all2_up e h3⟩) ?_ ?_
    · rintro xs G6 i d v6 σ' G7 H7 O' rfl x6 hx x7 s7 r6 ⟨at_, it, ls, rfl, rfl, ra⟩
      refine g_pair r6 s7 fun va vit ra_ rit => ?_
      cases ra_
      have x07 : Ex G G7 := Ex.t x1 (Ex.t x6 x7)
      have md : d ∈ xs := List.mem_of_getElem? hx
      have llen : ls.length ≤ 1000000 := by
        have h1 := all2_len ra
        rw [List.length_map, List.length_take] at h1
        have := ok.len
        omega
      have fst0 : ∀ {G8 O8 σ8}, Ex G7 G8 → σ8[4]? = some (some vit) → EvD B O8 (tOp (rIx K) (tVar 4) (tC (.int 0))) σ8 G8 d.1 := fun e8 hv => ev_op (α := Str × List Str) (β := Int) (ev_var hv (Py.up e8 rit)) ev_int o2_ix0
      refine q_when (P := fun c => c = false) (EvT.imp (et_or (et_no (et_test (ev_isDesk (ev_var rfl (Py.up x07 rv)) (ev_var rfl rit) (ok.ok d md)))) fun _ => et_test (ev_inOwn (List.mem_cons_self ..) rfl ra (fst0 Ex.r rfl))) fun c e => ?_) s7 (fun G8 H8 c x8 s8 => ?_) fun G8 H8 c x8 s8 => ?_
      · rw [e, decide_eq_false (nodup_at (key := (·.1)) ok.nd hx)]
        rfl
      · cases c
      · refine s_app (α := Str) (P := fun z => z = d.1) rfl (fst0 x8 rfl) s8 llen fun v9 z G9 H9 e9 x9 s9 r9 => ?_
        refine ⟨G9, (l, .lst (ls ++ [v9])) :: O, Ex.t x7 (Ex.t x8 x9), s9, some (.int (i : Int)), some vit, ls ++ [v9], rfl, rfl, ?_⟩
        rw [take_snoc hx, List.map_append]
        exact all2_app (all2_up (Ex.t x8 x9) ra) (.cons (by subst e9; exact r9) .nil)
    · rintro xs σ' G6 H6 O' rfl x6 s6 ⟨at_, it, ls, rfl, rfl, ra⟩
      refine s_ret (α := Option Int) (P := fun r => r = none) ev_non s6.drop fun v r G7 H7 e x7 s7 rv => k v r G7 H7 e (Ex.t x1 (Ex.t x6 x7)) s7 rv
theorem ev_firstBad {ta tb : TE} {σ : L2.St} {G : Hp} {B : Option Addr} {O : List (Addr × HO)} {ws : List Str} {ds : List (Str × List Str)} {E : XK} (h : EvD B O ta σ G ws) (h' : EvD B O tb σ G ds) (hd : DesksOk ws ds) : EvD B O (tCall spFirstBad [] E (tCons ta (tCons tb tNil))) σ G (none : Option Int) :=
  (ev_callP (A := List Str × List (Str × List Str)) (ea_2 h h') fun a e => by rw [show a = (ws, ds) from e]; exact hd).imp fun r ⟨_, _, e⟩ => e

/-! ### a roster -/
structure Ros (C : Addr) where
  ws : List Str
  crews : List (Str × List Str)
instance {C : Addr} : Py (Ros C) := ⟨fun G v r => ∃ a dx w c, v = .ref a ∧ G a = some (.ins C dx [("_workers", w), ("_crews", c)]) ∧ rp G w r.ws ∧ rp G c (Dct.mk r.crews),
  fun e ⟨a, dx, w, c, h1, h2, h3, h4⟩ => ⟨a, dx, w, c, h1, e a _ h2, Py.up e h3, Py.up e h4⟩⟩
structure RosterOk (ws : List Str) (ds : List (Str × List Str)) : Prop where
  w1 : 1 ≤ ws.length
  w2 : ws.length ≤ 40
  wnd : ws.Nodup
  wnm : ∀ x ∈ ws, Nm x
  d2 : ds.length ≤ 60
  dnd : (ds.map (·.1)).Nodup
  dnm : ∀ d ∈ ds, Nm d.1
  dcr : ∀ d ∈ ds, Crew ws d.2
theorem RosterOk.desk {ws : List Str} {ds : List (Str × List Str)} (h : RosterOk ws ds) : DesksOk ws ds := ⟨by have := h.d2; omega, h.dnd, fun d hd => ⟨h.dnm d hd, h.dcr d hd, by
  have h1 := h.dcr d hd
  have h2 := crew_len h1
  have h3 := h.w2
  exact ⟨by omega, h1.2.1, fun x hx => h.wnm x (h1.2.2 x hx)⟩⟩⟩
/-- the roster made of these -/
structure Made {C : Addr} (ws : List Str) (ds : List (Str × List Str)) (r : Ros C) : Prop where
  ws : r.ws.Perm ws
  srt : sortedS r.ws = true
  cr : Rel2 (fun (d : Str × List Str) (p : Str × List Str) => p.1 = d.1 ∧ p.2.Perm d.2 ∧ sortedS p.2 = true) ds r.crews
def spInit (C : Addr) : Sp := fun vs H Q _ => ∃ B O G x dx vw vd ws ds, vs = [.ref x, vw, vd] ∧ Sx B ((x, .ins C dx []) :: O) G H ∧ rp G vw ws ∧ rp G vd ds ∧ RosterOk ws ds ∧
  ∀ (r : Ros C) G' H', Made ws ds r → Ex G G' → Sx B O G' H' → rp G' (.ref x) r → Q .non H'
theorem ok_Roster_init (T : Tx K mg) : FnOk P w K mg base CX0 5 T.a_Roster_init T.d_Roster_init p_Roster_init (spInit T.c_Roster) := by
  refine okF T.f_Roster_init sc_Roster_init (fun vs H Q E h => ?_) (fun cdv A outer s H vs Q E hr h => ?_)
  · obtain ⟨B, O, G, x, dx, vw, vd, ws, ds, rfl, _⟩ := h
    rfl
  · obtain ⟨B, O, G, x, dx, vw, vd, ws, ds, rfl, s, rw, rd, ok, k⟩ := h
    have nd := sc_Roster_init.nd
    have hu := hu_of hr
    refine ⟨_, (pss_cons (ps_if (PW.pt (pw_or (pt_not (pt_val (pe_call (ok_are_names T) (hr.mono (by decide)) (by rfl) T.g_are_names T.k_are_names T.b_are_names .nil pass0 (pa_cons (pv 1) pa_nil)))) (pw_or1 (pt_not (pt_chain op_le op_le pe_int (pe_callB (lenQ (K := K) rfl) (by rfl) T.z_len (by decide +kernel) (pa_cons (pv 1) pa_nil)) (pe_glob (v := .int 40) (by rfl) T.gk_MOST_WORKERS.2 ⟨_, rfl⟩)))))) (pss_one ps_never)
      pss_nil)
      (pss_cons (ps_if (PW.pt (pw_or (pt_not (pt_val (pe_callB (isiQ (K := K) rfl) (by rfl) T.z_isinstance (by decide +kernel) (pa_cons (pv 2) (pa_cons (pe_bltn (v := .ty "list") (by rfl) T.z_list (by decide +kernel) rfl) pa_nil))))) (pw_or1 (pt_cmpR op_gt (pe_callB (lenQ (K := K) rfl) (by rfl) T.z_len (by decide +kernel) (pa_cons (pv 2) pa_nil)) (pe_glob (v := .int 60) (by rfl) T.gk_MOST_DESKS.2 ⟨_, rfl⟩) (nomark _))))) (pss_one ps_never)
      pss_nil)
      (pss_cons (ps_set (i := 3) nd rfl (Or.inl rfl) (pe_call (ok_first_bad_desk T) (hr.mono (by decide)) (by rfl) T.g_first_bad_desk T.k_first_bad_desk T.b_first_bad_desk .nil pass0 (pa_cons (pv 1) (pa_cons (pv 2) pa_nil))))
      (pss_cons (ps_if (pt_cmpR op_notN (pv 3) pe_non (nomark _)) (pss_one ps_never)
      pss_nil)
      (pss_cons (ps_fld (pv 0) (pe_callB (sortedQ (K := K) rfl) (by rfl) T.z_sorted (by decide +kernel) (pa_cons (pv 1) pa_nil)) rfl)
      (pss_one (ps_fld (pv 0) (pe_dc (own := [("name", 4), ("crew", 5)]) (by rfl) nd (pi_list (pv 2)) (blkOk_by (own := [("name", 4), ("crew", 5)]) (N := n_Roster_init) (sc := defScope s_Roster_init) (by decide +kernel)) (fun _ _ _ _ _ => (pg_tupQ (K := K) rfl (pg_tup (by rfl) (pgs_cons (pg_name (i := 4) nd rfl (Or.inl rfl)) (pgs_cons (pg_name (i := 5) nd rfl (Or.inl rfl)) pgs_nil))))) (fun _ _ _ _ _ => pts_nil) (fun _ _ _ _ _ => (pv 4)) (fun _ _ _ _ _ => (pe_callB (sortedQ (K := K) rfl) (by rfl) T.z_sorted (by decide +kernel) (pa_cons (pv 5) pa_nil)))) rfl))))))), ?_⟩
    have w1 := ok.w1
    have w2 := ok.w2
    have d2 := ok.d2
    refine q_when (P := fun c => c = false) (EvT.imp (et_or (et_no (et_test (ev_areNames (xs := ws) (ev_var rfl rw) ⟨by omega, ok.wnd, ok.wnm⟩))) fun _ => et_no (et_test (ev_chain ev_int (ev_lenD (xs := ws) (ev_var rfl rw)) o2_le (fun _ => ev_int) fun _ => o2_le))) fun c e => ?_) s (fun G1 H1 c x1 s1 => ?_) fun G1 H1 c x1 s1 => ?_
    · rw [e, decide_eq_true (by omega), decide_eq_true (by omega)]
      rfl
    · cases c
    refine q_when (P := fun c => c = false) (EvT.imp (et_or (et_no (et_test (ev_isiL (ev_var (a := ds) rfl (Py.up x1 rd))))) fun _ => et_test (ev_op (α := Int) (β := Int) (ev_lenD (xs := ds) (ev_var rfl (Py.up x1 rd))) ev_int o2_gt)) fun c e => ?_) s1 (fun G2 H2 c x2 s2 => ?_) fun G2 H2 c x2 s2 => ?_
    · rw [e, decide_eq_false (by omega)]
      rfl
    · cases c
    have x12 := Ex.t x1 x2
    refine q_set (α := Option Int) (P := fun r => r = none) (ev_firstBad (ev_var rfl (Py.up x12 rw)) (ev_var rfl (Py.up x12 rd)) ok.desk) s2 fun v3 o G3 H3 e3 x3 s3 r3 => ?_
    subst e3
    have r3 : v3 = .non := r3
    subst r3
    refine q_when (P := fun c => c = false) (et_test (ev_op (α := Option Int) (β := Option Int) (ev_var (a := none) rfl rfl) ev_non o2_notN)) s3 (fun G4 H4 c x4 s4 => ?_) fun G4 H4 c x4 s4 => ?_
    · cases c
    have x14 := Ex.t x12 (Ex.t x3 x4)
    refine q_fld (α := List Str) (P := fun r => r.Perm ws ∧ sortedS r = true) rfl T.cl_Roster T.nf_Roster__workers (by decide) (EvN.still (en_sortedS (xs := ws) (ev_var rfl (Py.up x14 rw)) (by omega))) s4 fun v5 l5 G5 H5 e5 x5 s5 r5 => ?_
    have x15 := Ex.t x14 x5
    refine s_fld (α := Dct (List Str)) rfl T.cl_Roster T.nf_Roster__crews (by simp [putF]) (ev_dc (α := Str × List Str) (β := List Str) (P := fun r => r = ds) (·.1) (fun d c => c.Perm d.2 ∧ sortedS c = true) (ev_var rfl (Py.up x15 rd)) (fun xs e => by rw [e]; exact ⟨by omega, ok.dnd⟩) fun xs d v G6 H6 O6 Q e hd e6 s6 rd k => ?_) s5 fun v6 d6 G6 H6 e6 x6 s6 r6 => ?_
    · refine g_pair rd s6 fun va vb ra rb => k _ rfl (ev_var rfl ra) (EvN.still (en_sortedS (xs := d.2) (ev_var rfl rb) ?_))
      have := crew_len (ok.dcr d (e ▸ hd))
      omega
    · obtain ⟨xs, rfl, h6⟩ := e6
      have hp : putF (Str.ofString "_crews") v6 (putF (Str.ofString "_workers") v5 []) = [(("_workers" : Str), v5), (("_crews" : Str), v6)] := rfl
      rw [hp] at s6
      obtain ⟨s7, x7⟩ := s6.freeze
      refine k ⟨l5, d6.items⟩ _ _ ⟨e5.1, e5.2, h6⟩ (Ex.t x15 (Ex.t x6 x7)) s7 ⟨x, dx, v5, v6, rfl, upd_same, Py.up (Ex.t x6 x7) r5, Py.up x7 r6⟩
end
end My

set_option Elab.async false
set_option linter.all false
set_option maxRecDepth 100000
set_option maxHeartbeats 4000000
namespace My
open PySem PySem.Spec PyProof.Rows L2 Dk
open Evl (Ex)
open Dk.Py (rp)
open Dk.PyD (pic)
section
variable {α β : Type} [Py α] [Py β]
variable {P : Program} {w : World} {K : PySem.W.Frag} {mg : Str → Option Value} {base : Heap} {B : Option Addr} {O : List (Addr × HO)} {te ta tb : TE} {σ : L2.St} {G : Hp} {E : XK}
theorem ev_fldW (T : Tx K mg) {r : Ros T.c_Roster} (h : EvD B O te σ G r) : EvD B O (tFld K te "_workers") σ G r.ws := fun G1 H1 e s Q q =>
  h G1 H1 e s _ fun v r' G2 H2 p e2 s2 ⟨a, dx, x, c, h1, h2, h3, h4⟩ => by
    have p : r' = r := p
    subst p
    exact ⟨a, T.c_Roster, dx, _, x, h1, s2.ex a _ h2, T.cl_Roster, T.nf_Roster__workers, rfl, q x _ G2 H2 rfl e2 s2 h3⟩
theorem ev_fldC (T : Tx K mg) {r : Ros T.c_Roster} (h : EvD B O te σ G r) : EvD B O (tFld K te "_crews") σ G (Dct.mk r.crews) := fun G1 H1 e s Q q =>
  h G1 H1 e s _ fun v r' G2 H2 p e2 s2 ⟨a, dx, x, c, h1, h2, h3, h4⟩ => by
    have p : r' = r := p
    subst p
    exact ⟨a, T.c_Roster, dx, _, c, h1, s2.ex a _ h2, T.cl_Roster, T.nf_Roster__crews, rfl, q c _ G2 H2 rfl e2 s2 h4⟩
/-- r.m(), r.m(e): a new list -/
theorem en_meth0 {C : Addr} {m : Str} {pre : Ros C → Prop} {post : Ros C → List β → Prop} {r : Ros C} (h : EvD B O te σ G r) (hp : pre r) (hm : ∀ x c : V, [(("_workers" : Str), x), (("_crews" : Str), c)].lookup m = none) :
    EvN B O (tMeth C m (SpN a1 pre post) [] E te tNil) σ G (post r) := fun G1 H1 e s Q q =>
  h G1 H1 e s _ fun v r' G2 H2 p e2 s2 rv => by
    have p : r' = r := p
    subst p
    obtain ⟨a, dx, x, c, h1, h2, _⟩ := id rv
    exact ⟨a, dx, _, h1, s2.ex a _ h2, hm x c, B, O, G2, r', s2, ⟨v, rfl, rv⟩, hp, fun l ws z G3 H3 pz e3 s3 rz => q l ws z G3 H3 pz (Ex.t e2 e3) s3 rz⟩
theorem en_meth1 {C : Addr} {m : Str} {pre : Ros C × α → Prop} {post : Ros C × α → List β → Prop} {r : Ros C} {y : α} (h : EvD B O te σ G r) (h' : EvD B O ta σ G y) (hp : pre (r, y)) (hm : ∀ x c : V, [(("_workers" : Str), x), (("_crews" : Str), c)].lookup m = none) :
    EvN B O (tMeth C m (SpN a2 pre post) [] E te (tCons ta tNil)) σ G (post (r, y)) := fun G1 H1 e s Q q =>
  h G1 H1 e s _ fun v r' G2 H2 p e2 s2 rv => by
    have p : r' = r := p
    subst p
    obtain ⟨a, dx, x, c, h1, h2, _⟩ := id rv
    refine ⟨a, dx, _, h1, s2.ex a _ h2, hm x c, h' G2 H2 (Ex.t e e2) s2 _ fun u y' G3 H3 p3 e3 s3 ru => ?_⟩
    have p3 : y' = y := p3
    subst p3
    exact ⟨B, O, G3, (r', y'), s3, ⟨v, u, rfl, Py.up e3 rv, ru⟩, hp, fun l ws z G4 H4 pz e4 s4 rz => q l ws z G4 H4 pz (Ex.t e2 (Ex.t e3 e4)) s4 rz⟩
/-- Roster(e, e') -/
theorem ev_make {C : Addr} {P : List Str × List (Str × List Str) → Prop} {t : TA} (h : EvA B O t σ G a2 P) (hp : ∀ a, P a → RosterOk a.1 a.2) :
    EvP B O (tMake C (spInit C) [] E t) σ G fun r : Ros C => ∃ a, P a ∧ Made a.1 a.2 r := fun G1 H1 e s Q q =>
  h G1 H1 e s _ fun vs a G2 H2 p e2 s2 ⟨v, u, hv, rv, ru⟩ x dx hx hd ne => by
    subst hv
    have hx' : upd H2 dx (.own x) x = none := by rw [upd_ne ne.symm]; exact hx
    refine ⟨B, O, G2, x, dx, v, u, a.1, a.2, rfl, (s2.mine (o := .own x) hd).drop.mine hx', rv, ru, hp a p, fun r G3 H3 hm e3 s3 rr => ⟨rfl, q _ r G3 H3 ⟨a, p, hm⟩ (Ex.t e2 e3) s3 rr⟩⟩
def spWorkers (C : Addr) : Sp := SpN (a1 (α := Ros C)) (fun _ => True) (fun r (l : List Str) => l = r.ws)
theorem ok_Roster_workers (T : Tx K mg) : FnOk P w K mg base CX0 1 T.a_Roster_workers T.d_Roster_workers p_Roster_workers (spWorkers T.c_Roster) := by
  refine okF T.f_Roster_workers sc_Roster_workers (fun vs H Q E h => ?_) (fun cdv A outer s H vs Q E hr h => ?_)
  · obtain ⟨B, O, G, a, s, ⟨v, rfl, rv⟩, hm, k⟩ := h
    rfl
  · obtain ⟨B, O, G, r, s, ⟨v, rfl, rv⟩, hm, k⟩ := h
    have nd := sc_Roster_workers.nd
    have hu := hu_of hr
    refine ⟨_, (pss_one (ps_ret (pe_callTy (listQ (K := K) rfl) (by rfl) T.z_list (by decide +kernel) (pa_cons (pe_fldQ (K := K) rfl (pv 0) (by rfl)) pa_nil)))), ?_⟩
    exact s_retN (en_list (ev_fldW T (r := r) (ev_var rfl rv))) s k
def spDesks (C : Addr) : Sp := SpN (a1 (α := Ros C)) (fun r => r.crews.length < 64) (fun r (l : List Str) => l.Perm (r.crews.map (·.1)) ∧ sortedS l = true)
theorem ok_Roster_desks (T : Tx K mg) : FnOk P w K mg base CX0 1 T.a_Roster_desks T.d_Roster_desks p_Roster_desks (spDesks T.c_Roster) := by
  refine okF T.f_Roster_desks sc_Roster_desks (fun vs H Q E h => ?_) (fun cdv A outer s H vs Q E hr h => ?_)
  · obtain ⟨B, O, G, a, s, ⟨v, rfl, rv⟩, hm, k⟩ := h
    rfl
  · obtain ⟨B, O, G, r, s, ⟨v, rfl, rv⟩, hm, k⟩ := h
    have nd := sc_Roster_desks.nd
    have hu := hu_of hr
    refine ⟨_, (pss_one (ps_ret (pe_callB (srtDQ rfl) (by rfl) T.z_sorted (by decide +kernel) (pa_cons (pe_fldQ (K := K) rfl (pv 0) (by rfl)) pa_nil)))), ?_⟩
    exact s_retN (en_sortedD (ev_fldC T (r := r) (ev_var rfl rv)) hm) s k
def spCrewOf (C : Addr) : Sp := SpN (a2 (α := Ros C) (β := Str)) (fun a => (a.1.crews.map (·.1)).Nodup ∧ ∃ c, (a.2, c) ∈ a.1.crews) (fun a (l : List Str) => (a.2, l) ∈ a.1.crews)
theorem ok_Roster_crew (T : Tx K mg) : FnOk P w K mg base CX0 1 T.a_Roster_crew T.d_Roster_crew p_Roster_crew (spCrewOf T.c_Roster) := by
  refine okF T.f_Roster_crew sc_Roster_crew (fun vs H Q E h => ?_) (fun cdv A outer s H vs Q E hr h => ?_)
  · obtain ⟨B, O, G, a, s, ⟨v, u, rfl, rv, ru⟩, hm, k⟩ := h
    rfl
  · obtain ⟨B, O, G, ⟨r, d⟩, s, ⟨v, u, rfl, rv, ru⟩, ⟨hnd, c, hc⟩, k⟩ := h
    cases ru
    simp only at rv hnd hc
    have nd := sc_Roster_crew.nd
    have hu := hu_of hr
    refine ⟨_, (pss_cons (ps_if (pt_cmp (pc_dnotin hu (pv 1) (pe_fldQ (K := K) rfl (pv 0) (by rfl))) rfl) (pss_one ps_never)
      pss_nil)
      (pss_one (ps_ret (pe_callTy (listQ (K := K) rfl) (by rfl) T.z_list (by decide +kernel) (pa_cons (pe_dgetQ (by rfl) hu (pe_fldQ (K := K) rfl (pv 0) (by rfl)) (pv 1) (fun _ _ => rfl)) pa_nil))))), ?_⟩
    refine q_when (P := fun c => c = false) (et_test (ev_dnotin (x := d) (ev_var rfl rfl) (ev_fldC T (r := r) (ev_var rfl rv)) hnd hc)) s (fun G1 H1 c x1 s1 => ?_) fun G1 H1 _ x1 s1 => ?_
    · cases c
    refine s_retN (P := fun l => l = c) (en_list (ev_dget (ev_fldC T (r := r) (ev_var rfl (Py.up x1 rv))) (ev_var rfl rfl) hnd hc)) s1 fun p ws l G2 H2 e x2 s2 r2 => k p ws l G2 H2 ?_ (Ex.t x1 x2) s2 r2
    show (d, l) ∈ r.crews
    rw [e]
    exact hc
end
end My

set_option Elab.async false
set_option linter.all false
set_option maxRecDepth 100000
set_option maxHeartbeats 4000000
namespace My
open PySem PySem.Spec PyProof.Rows L2 Dk
open Evl (Ex)
open Dk.Py (rp)
open Dk.PyD (pic)
section
variable {P : Program} {w : World} {K : PySem.W.Frag} {mg : Str → Option Value} {base : Heap}
def spRoster (C : Addr) : Sp := SpF (a1 (α := PT)) (fun p => RosterOk p.1 p.2) (fun p (r : Ros C) => Made p.1 p.2 r)
theorem ok_law_roster (T : Tx K mg) : FnOk P w K mg base CX0 7 T.a_law_roster T.d_law_roster p_law_roster (spRoster T.c_Roster) := by
  refine okF T.f_law_roster sc_law_roster (fun vs H Q E h => ?_) (fun cdv A outer s H vs Q E hr h => ?_)
  · obtain ⟨B, O, G, a, s, ⟨v, rfl, rv⟩, hm, k⟩ := h
    rfl
  · obtain ⟨B, O, G, ⟨ws, ds⟩, s, ⟨v, rfl, rv⟩, ok, k⟩ := h
    simp only at ok
    have nd := sc_law_roster.nd
    have hu := hu_of hr
    refine ⟨_, (pss_one (ps_ret (pe_make T.mk_Roster (ok_Roster_init T) (hr.mono (by decide)) (by rfl) T.gc_Roster T.b_Roster_init .nil pass0 (pa_cons (pe_callTy (listQ (K := K) rfl) (by rfl) T.z_list (by decide +kernel) (pa_cons (pe_ix (ixQ (K := K) rfl) (pv 0) pe_int (fun _ _ => rfl)) pa_nil)) (pa_cons (pe_lc (own := [("name", 1), ("crew", 2)]) (by rfl) nd (pi_list (pe_ix (ixQ (K := K) rfl) (pv 0) pe_int (fun _ _ => rfl))) (blkOk_by (own := [("name", 1), ("crew", 2)]) (N := n_law_roster) (sc := defScope s_law_roster) (by decide +kernel)) (fun _ _ _ _ _ => (pg_tupQ (K := K) rfl (pg_tup (by rfl) (pgs_cons (pg_name (i := 1) nd rfl (Or.inl rfl)) (pgs_cons (pg_name (i := 2) nd rfl (Or.inl rfl)) pgs_nil))))) (fun _ _ _ _ _ => pts_nil) (fun _ _ _ _ _ => (pe_tup (pa_cons (pv 1) (pa_cons (pe_callTy (listQ (K := K) rfl) (by rfl) T.z_list (by decide +kernel) (pa_cons (pv 2) pa_nil)) pa_nil))))) pa_nil))))), ?_⟩
    refine s_ret (EvP.imp (ev_make (P := fun a => a.1 = ws ∧ a.2 = ds) (ea_2P (P := fun l => l = ws) (R := fun l => l = ds) (EvN.still (en_list (ev_op (α := PT) (β := Int) (ev_var rfl rv) ev_int o2_ix0))) (EvN.still (EvN.imp (en_lc (α := Str × List Str) (β := Str × List Str) (P := fun r => r = ds) (fun _ => true) (fun d p => p = d) (ev_op (α := PT) (β := Int) (ev_var rfl rv) ev_int o2_ix1) (fun xs e => by rw [e]; have := ok.d2; omega) fun xs d v G2 H2 O2 Q e hd e2 s2 rd k => ?_) fun ys h => ?_))) fun a e => ?_) fun r h => ?_) s k
    · refine g_pair rd s2 fun va vb ra rb => k _ rfl et_yes fun _ => ?_
      exact (ev_pairD (ev_var rfl ra) (EvN.still (en_list (ev_var (a := d.2) rfl rb)))).imp fun _ e => e
    · obtain ⟨xs, e, h⟩ := h
      rw [filter_true] at h
      rw [rel2_map (f := id) h, e, List.map_id]
    · rw [e.1, e.2]; exact ok
    · obtain ⟨⟨a, b⟩, ⟨rfl, rfl⟩, h⟩ := h
      exact h
end
end My

set_option Elab.async false
set_option linter.all false
set_option maxRecDepth 100000
set_option maxHeartbeats 4000000
namespace My
open PySem PySem.Spec PyProof.Rows L2 Dk
open Evl (Ex)
open Dk.Py (rp)
open Dk.PyD (pic)
/-- parts of some size -/
def PartsS (p : PT) : Prop := ∃ m d, Parts m d p ∧ m ≤ 40 ∧ d ≤ 60
theorem made_keys {ds cs : List (Str × List Str)} (h : Rel2 (fun (d : Str × List Str) (p : Str × List Str) => p.1 = d.1 ∧ p.2.Perm d.2 ∧ sortedS p.2 = true) ds cs) : cs.map (·.1) = ds.map (·.1) := by
  induction h with
  | nil => rfl
  | cons a b ih => rw [List.map_cons, List.map_cons, ih, a.1]
theorem key_unique : ∀ {ds : List (Str × List Str)}, (ds.map (·.1)).Nodup → ∀ {x : Str} {c c' : List Str}, (x, c) ∈ ds → (x, c') ∈ ds → c = c'
  | d :: ds, nd, x, c, c', h, h' => by
    rw [List.map_cons, List.nodup_cons] at nd
    rcases List.mem_cons.mp h with h | h <;> rcases List.mem_cons.mp h' with h' | h'
    · rw [← h] at h'
      exact (Prod.ext_iff.mp h').2.symm
    · rw [← h] at nd
      exact absurd (List.mem_map_of_mem (f := (·.1)) h') nd.1
    · rw [← h'] at nd
      exact absurd (List.mem_map_of_mem (f := (·.1)) h) nd.1
    · exact key_unique nd.2 h h'
theorem parts_ok {p : PT} (h : PartsS p) : RosterOk p.1 p.2 := by
  obtain ⟨m, d, h, hm, hd⟩ := h
  exact ⟨h.w1, Nat.le_trans h.w2 hm, h.wnd, h.wnm, Nat.le_trans h.d2 hd, h.dnd, h.dnm, h.dcr⟩
end My


set_option Elab.async false
set_option linter.all false
set_option maxRecDepth 100000
set_option maxHeartbeats 4000000
namespace My
open PySem PySem.Spec PyProof.Rows L2 Dk
open Evl (Ex)
open Dk.Py (rp)
open Dk.PyD (pic)
/-! ### the older promises in the newer words -/
def law_take_m (m : Int) : W Int := W.chk (1 ≤ m ∧ m ≤ 10 ^ 41) (W.pick fun r => 0 ≤ r ∧ r < m)
def law_names_m (m : Int) : W (List Str) := W.chk (0 ≤ m ∧ m ≤ 70) (W.pick fun r => Names m.toNat r)
def law_crew_m (ws : List Str) (way : Int) : W (List Str) := W.chk (ws ≠ [] ∧ ws.length ≤ 70 ∧ ws.Nodup ∧ ∀ x ∈ ws, okS x) (W.pick fun r => Crew ws r)
def law_parts_m (most desks : Int) : W PT := W.chk (1 ≤ most ∧ most ≤ 70 ∧ 0 ≤ desks ∧ desks ≤ 70) (W.pick fun r => Parts most.toNat desks.toNat r)
def law_roster_m {C : Addr} (p : PT) : W (Ros C) := W.chk (RosterOk p.1 p.2) (W.pick fun r => Made p.1 p.2 r)
def law_sized_m : W PT := W.chk True (W.pick PartsS)
def Roster_workers_m {C : Addr} (r : Ros C) : W (List Str) := W.chk True (W.pick fun l => l = r.ws)
def Roster_desks_m {C : Addr} (r : Ros C) : W (List Str) := W.chk (r.crews.length < 64) (W.pick fun l => l.Perm (r.crews.map (·.1)) ∧ sortedS l = true)
def Roster_crew_m {C : Addr} (r : Ros C) (d : Str) : W (List Str) := W.chk ((r.crews.map (·.1)).Nodup ∧ ∃ c, (d, c) ∈ r.crews) (W.pick fun l => (d, l) ∈ r.crews)
section
variable {P : Program} {w : World} {K : PySem.W.Frag} {mg : Str → Option Value} {base : Heap}
theorem okw_law_take (T : Tx K mg) : FnG P w K mg base CX0 1 T.a_law_take T.d_law_take p_law_take (SpV XE0 (aB (aC (α := Int) aN)) fun q => law_take_m q.1) := (ok_law_take T).ofF (c := fun q => q.1) fun _ _ _ _ h => to_b1 h
theorem okw_law_names (T : Tx K mg) : FnG P w K mg base CX0 2 T.a_law_names T.d_law_names p_law_names (SpO XE0 (aB (aC (α := Int) aN)) fun q => law_names_m q.1) := (ok_law_names T).ofN (c := fun q => q.1) fun _ _ _ _ h => to_b1 h
theorem okw_law_crew (T : Tx K mg) : FnG P w K mg base CX0 3 T.a_law_crew T.d_law_crew p_law_crew (SpO XE0 (aB (aC (α := List Str) (aC (α := Int) aN))) fun q => law_crew_m q.1 q.2.1) := (ok_law_crew T).ofN (c := fun q => (q.1, q.2.1)) fun _ _ _ _ h => to_b2 h
theorem okw_law_parts (T : Tx K mg) : FnG P w K mg base CX0 4 T.a_law_parts T.d_law_parts p_law_parts (SpV XE0 (aB (aC (α := Int) (aC (α := Int) aN))) fun q => law_parts_m q.1 q.2.1) := (ok_law_parts T).ofF (c := fun q => (q.1, q.2.1)) fun _ _ _ _ h => to_b2 h
theorem okw_law_roster (T : Tx K mg) : FnG P w K mg base CX0 7 T.a_law_roster T.d_law_roster p_law_roster (SpV XE0 (aC (α := PT) aN) fun q => law_roster_m (C := T.c_Roster) q.1) := (FnG.of (ok_law_roster T)).ofF (c := fun q => q.1) fun _ _ _ _ h => to_a1 h
end
/-! ### rules -/
section
variable {α β γ : Type} [Py α] [Py β] [Py γ] {XP : XPost} {D : List Sl} {te ta tb : TE} {K : PySem.W.Frag} {mg : Str → Option Value} {C : Addr}
theorem _root_.Dk.EW.fldW (T : Tx K mg) {m : W (Ros T.c_Roster)} (h : EW XP D te m) : EW XP D (tFld K te "_workers") (m.bind fun r => W.pure r.ws) := EW.lift (C := fun t => tFld K t "_workers") h (fun _ _ _ _ => rfl) fun x v G B O σ r => .ofD (ev_fldW T (cstD r))
theorem _root_.Dk.EW.fldC (T : Tx K mg) {m : W (Ros T.c_Roster)} (h : EW XP D te m) : EW XP D (tFld K te "_crews") (m.bind fun r => W.pure (Dct.mk r.crews)) := EW.lift (C := fun t => tFld K t "_crews") h (fun _ _ _ _ => rfl) fun x v G B O σ r => .ofD (ev_fldC T (cstD r))
theorem _root_.Dk.EWN.meth {m : Str} {A A' : Type} {ar : Ar A'} {pre : A' → Prop} {post : A' → List β → Prop} {ar2 : AR A} {c : Ros C → A → A'} {mo : W (Ros C)} {ma : W A} {t : TA} {E : XK} (h : EW XP D te mo) (h' : EWA XP D t ar2 ma) (hm : ∀ x c : V, [(("_workers" : Str), x), (("_crews" : Str), c)].lookup m = none)
    (hc : ∀ B G v vs r a, rp G v r → ar2.rel B G vs a → ar B G (v :: vs) (c r a)) : EWN XP D (tMeth C m (SpN ar pre post) [] E te t) (mo.bind fun r => ma.bind fun a => W.chk (pre (c r a)) (W.pick fun l => post (c r a) l)) := fun B O0 O G H σ Q fr s q =>
  h fr s (mo.mono (fun r k v G2 H2 e2 s2 rv => by
    obtain ⟨a, dx, x, c', h1, h2, _⟩ := id rv
    refine ⟨a, dx, _, h1, s2.ex a _ h2, hm x c', h' (fr.up e2) s2 (ma.mono (fun b ⟨hp, k2⟩ vs G3 H3 e3 s3 rb => ?_) (PX.up e2) k)⟩
    refine ⟨B, O ++ O0, G3, c r b, s3, ?_, hp, fun p ws z G4 H4 pz e4 s4 rz => k2 z pz p ws G4 H4 (Ex.t e2 (Ex.t e3 e4)) s4 rz⟩
    have := hc B G3 v vs r b (Py.up e3 rv) rb
    simpa only [List.append_nil, h1] using this) (fun _ x => x) q)
theorem _root_.Dk.EWN.meth_workers {mo : W (Ros C)} {ma : W Unit} {t : TA} {E : XK} (h : EW XP D te mo) (h' : EWA XP D t aN ma) : EWN XP D (tMeth C "workers" (spWorkers C) [] E te t) (mo.bind fun r => ma.bind fun _ => Roster_workers_m (C := C) r) := EWN.meth (ar := a1) (pre := fun _ => True) (post := fun r l => l = r.ws) (c := fun r _ => r) h h' (fun _ _ => rfl) (fun B G v vs r a rv ra => ⟨v, by rw [show vs = [] from ra], rv⟩)
theorem _root_.Dk.EWN.meth_desks {mo : W (Ros C)} {ma : W Unit} {t : TA} {E : XK} (h : EW XP D te mo) (h' : EWA XP D t aN ma) : EWN XP D (tMeth C "desks" (spDesks C) [] E te t) (mo.bind fun r => ma.bind fun _ => Roster_desks_m (C := C) r) := EWN.meth (ar := a1) (pre := fun r : Ros C => r.crews.length < 64) (post := fun r l => l.Perm (r.crews.map (·.1)) ∧ sortedS l = true) (c := fun r _ => r) h h' (fun _ _ => rfl) (fun B G v vs r a rv ra => ⟨v, by rw [show vs = [] from ra], rv⟩)
theorem _root_.Dk.EWN.meth_crew {mo : W (Ros C)} {ma : W (Str × Unit)} {t : TA} {E : XK} (h : EW XP D te mo) (h' : EWA XP D t (aC (α := Str) aN) ma) : EWN XP D (tMeth C "crew" (spCrewOf C) [] E te t) (mo.bind fun r => ma.bind fun a => Roster_crew_m (C := C) r a.1) := EWN.meth (ar := a2) (pre := fun a : Ros C × Str => (a.1.crews.map (·.1)).Nodup ∧ ∃ c, (a.2, c) ∈ a.1.crews) (post := fun a l => (a.2, l) ∈ a.1.crews) (c := fun r a => (r, a.1)) h h' (fun _ _ => rfl) (fun B G v vs r a rv ⟨u, us, e, ru, e2⟩ => ⟨v, u, by rw [e, show us = [] from e2], rv, ru⟩)
/-- a call of _law_mixed -/
theorem _root_.Dk.EWN.mixed {m : W (List α)} {i : Nat} {E : XK} (hi : D[i]? = some .bag) (h : EW XP D te m) : EWN XP D (tCall spMixed [] E (tCons (tVar i) (tCons te tNil))) (m.bind fun xs => W.chk (xs.length ≤ 1000) (W.pick fun ys => ys.Perm xs)) := fun B O0 O G H σ Q fr s q => by
  obtain ⟨_, _, _, v, _, e2, ⟨_, b, e3, e4⟩, _⟩ := fr.focus hi
  subst e3
  exact ⟨.ref b, by rw [e2, e4], h fr s (m.mono (fun xs ⟨c, k⟩ v G2 H2 e s2 r => ⟨α, _, b, O ++ O0, G2, v, xs, rfl, s2, r, c, fun p ws ys G3 H3 pm e3 s3 ra => k ys pm p ws G3 H3 (Ex.t e e3) s3 ra⟩) (fun _ x => x) q)⟩
/-- a call of _law_alike -/
theorem _root_.Dk.EW.alike {α : Type} [DecidableEq α] [PyD α] {m n : W α} {E : XK} (hd : PyD.deep α ≤ 40) (h : EW XP D ta m) (h' : EW XP D tb n) : EW XP D (tCall spAlike [] E (tCons ta (tCons tb tNil))) (m.bind fun x => n.bind fun y => W.chk (PyD.ok x ∧ PyD.ok y ∧ PyD.okr x ∧ PyD.size x ≤ 1000000) (W.pure (decide (x = y)))) := fun B O0 O G H σ Q fr s q =>
  h fr s (m.mono (fun x k v G2 H2 e s2 r => h' (fr.up e) s2 (n.mono (fun y ⟨c, k2⟩ w G3 H3 e3 s3 r3 => ⟨α, _, _, B, O ++ O0, G3, v, w, x, y, rfl, s3, Py.up e3 r, r3, c.1, c.2.1, c.2.2.1, c.2.2.2, hd, fun G4 H4 e4 s4 => k2 _ G4 H4 (Ex.t e (Ex.t e3 e4)) s4 rfl⟩) (PX.up e) k)) (fun _ x => x) q)
/-- the law's own promise, and its first row -/
def sp (K : PySem.W.Frag) : Sp := fun vs H Q _ => ∃ (a : Addr) (ns : List Int), vs = [.ref a] ∧ ns.length ≤ 63 ∧ SqL K H a (ns.map V.int) ∧ ∀ H', Q (.bl true) H'
theorem sp_start {K : PySem.W.Frag} {H : Hp} {a : Addr} {ns : List Int} (hl : ns.length ≤ 63) (hS : SqL K H a (ns.map V.int)) (hO : ∀ b, H b ≠ none → b = a) : sp K [.ref a] H (fun v _ => v = .bl true) fun _ _ _ => False := ⟨a, ns, rfl, hl, hS, fun _ => rfl⟩
theorem law_start {a : Addr} {ns : List Int} {rest : TS} {n : Nat} {m : W Bool} {Q : VK} {H : Hp} {E : XK} {σ : L2.St} (hl : ns.length ≤ 63) (hS : SqL K H a (ns.map V.int)) (k : ∀ H', Q (.bl true) H') (hm : m.run (fun b => b = true) fun _ => False)
    (hb : StR XP0 rmV (.any :: .bag :: List.replicate n .any) rest m) (hσ : σ = some (.ref a) :: none :: List.replicate n none) : tSeq (tAsg (tCall (spBag K) [] E (tCons (tVar 0) tNil)) (gName 1)) rest { nx := fun _ H' => Q .non H', rt := Q } σ H := by
  subst hσ
  have s0 : Sx none [] H H := ⟨fun _ _ e => e, fun p hp => (nomatch hp), List.nodup_nil, fun b e => (nomatch e)⟩
  refine ⟨_, rfl, a, ns, [], H, rfl, s0, hS, hl, fun b G1 H1 x1 s1 => ?_⟩
  refine hb (O := []) (.cons (o := []) rfl (.cons (o := []) ⟨rfl, b, rfl, rfl⟩ (fr_bare n))) s1 (fun _ _ z => z) (m.mono (fun r e G2 _ v G3 H3 _ _ rv => ?_) (fun _ h => h.elim) hm)
  subst e
  cases rv
  exact k H3
end
end My

set_option Elab.async false
set_option linter.all false
set_option maxRecDepth 100000
set_option maxHeartbeats 4000000
namespace My
open PySem PySem.Spec PyProof.Rows L2 Dk
open PySem.W (DatumOrd)
open Evl (Ex)
open Dk.Py (rp)
open Dk.PyD (pic)
section
variable {P : Program} {w : World} {K : PySem.W.Frag} {mg : Str → Option Value} {base : Heap}
def ordered_r {C : Addr} (roster : (Ros C)) (line : (List Str)) (desk : Str) : W (List Str) := (W.bind (W.bind (W.pure roster) fun r_3 => (W.bind (W.bind (W.pure desk) fun a_1 => (W.bind (W.pure ()) fun q_2 => (W.pure (a_1, q_2)))) fun q_4 => (My.Roster_crew_m (C := C) r_3 q_4.1))) fun crew_5 => (W.bind (W.pure line) fun l_9 => (W.chk (l_9.length ≤ 1000000) (W.mapf (fun (worker_6 : Str) => (W.bind (W.pure worker_6) fun x_7 => (W.bind (W.pure crew_5) fun y_8 => (W.pure (decide (x_7 ∈ y_8)))))) (fun (worker_6 : Str) => (W.pure worker_6)) l_9))))
def ordered_m {C : Addr} (roster : (Ros C)) (line : (List Str)) (desk : Str) : W (List Str) := (W.bind (My.Roster_crew_m (C := C) roster desk) fun crew_5 => (W.chk (line.length ≤ 1000000) (W.mapf (fun (worker_6 : Str) => (W.pure (decide (worker_6 ∈ crew_5)))) (fun (worker_6 : Str) => (W.pure worker_6)) line)))
theorem okw_ordered (T : Tx K mg) : FnG P w K mg base CX0 2 T.a_ordered T.d_ordered p_ordered (SpO XE0 (aC (α := (Ros T.c_Roster)) (aC (α := (List Str)) (aC (α := Str) aN))) fun q => ordered_m (C := T.c_Roster) q.1 q.2.1 q.2.2.1) := by
  refine okO (n := 3) T.f_ordered sc_ordered (ArFr.cons (ArFr.cons (ArFr.cons ArFr.nil))) rfl fun cdv A' outer s H E gd hr => ?_
  have nd := sc_ordered.nd
  have hu := hu_of hr
  have hu65 := hu65_of' hr
  refine ⟨_, (pss_cons (ps_set (i := 3) nd rfl (Or.inr rfl) (pe_meth (pv 0) T.cl_Roster T.m_Roster_crew (ok_Roster_crew T) (hr.mono (by decide)) T.b_Roster_crew .nil pass0 (pa_cons (pv 2) pa_nil)))
      (pss_one (ps_ret (pe_lc (own := [("worker", 4)]) (by rfl) nd (pi_list (pv 1)) (blkOk_by (own := [("worker", 4)]) (N := n_ordered) (sc := defScope s_ordered) (by decide +kernel)) (fun _ _ _ _ _ => (pg_name (i := 4) nd rfl (Or.inl rfl))) (fun _ _ _ _ _ => (pts_one (pt_cmpR (inQ (K := K) rfl) (pv 4) (pv 3) (by rfl)))) (fun _ _ _ _ _ => (pv 4)))))), ?_⟩
  rintro ⟨roster, ⟨line, ⟨desk, _⟩⟩⟩
  show StR XP0 rmO [stv (α := (Ros T.c_Roster)) roster, stv (α := (List Str)) line, stv (α := Str) desk, Sl.any, Sl.any] _ (ordered_r (C := T.c_Roster) roster line desk)
  unfold ordered_r
  exact (StR.seq (StW.set (EW.still (EWN.meth_crew (EW.var rfl) (EWA.cons (EW.var rfl) EWA.nil))) rfl) fun crew_5 => (StR.rt (Rt.new (EWN.lcF (EWI.list (EW.var rfl)) (AllFree.mk rfl rfl AllFree.no) (.name rfl rfl) (fun worker_6 => (EWT.val (EW.op (EW.var rfl) (EW.var rfl) w_inL))) (fun worker_6 => (EW.var rfl))))))
def first_difference_r (workers : (List Str)) (others : (List Str)) : W (Option Int) := (W.thenL (W.bind (W.bind (W.pure workers) fun x_1 => (W.bind (W.pure others) fun y_2 => (W.pure (enumL (x_1.zip y_2))))) fun xs_11 => (W.loop (fun (at_4 : (Int × (Str × Str))) (s_3 : Unit) => (W.bind (W.bind (W.pure at_4.2.1) fun x_5 => (W.bind (W.pure at_4.2.2) fun y_6 => (W.pure (!decide (x_5 = y_6))))) fun c_7 => (W.ite c_7 (W.bind (W.bind (W.pure at_4.1) fun o_8 => (W.pure (some o_8))) fun r_9 => (W.pure (Fl.rt r_9 : Fl Unit (Option Int) Unit))) (W.bind (W.bind (W.pure ()) fun w_10 => (W.pure ())) fun w_10' => (W.pure (Fl.nx w_10')))))) xs_11 ())) (fun s_3 => (W.pure (none : (Option Int)))))
def first_difference_m (workers : (List Str)) (others : (List Str)) : W (Option Int) := (W.thenL (W.loop (fun (at_4 : (Int × (Str × Str))) (s_3 : Unit) => (W.ite (!decide (at_4.2.1 = at_4.2.2)) (W.pure (Fl.rt (some at_4.1) : Fl Unit (Option Int) Unit)) (W.pure (Fl.nx ())))) (enumL (workers.zip others)) ()) (fun s_3 => (W.pure (none : (Option Int)))))
theorem okw_first_difference (T : Tx K mg) : FnG P w K mg base CX0 1 T.a_first_difference T.d_first_difference p_first_difference (SpV XE0 (aC (α := (List Str)) (aC (α := (List Str)) aN)) fun q => first_difference_m q.1 q.2.1) := by
  refine okV (n := 2) T.f_first_difference sc_first_difference (ArFr.cons (ArFr.cons ArFr.nil)) rfl fun cdv A' outer s H E gd hr => ?_
  have nd := sc_first_difference.nd
  have hu := hu_of hr
  have hu65 := hu65_of' hr
  refine ⟨_, (pss_cons (ps_for PassesOwn.never rfl (pi_enumzip (by rfl) T.z_enumerate (by rfl) T.z_zip (pa_cons (pv 0) (pa_cons (pv 1) pa_nil))) (pg_tupQ (K := K) rfl (pg_tup (by rfl) (pgs_cons (pg_name (i := 2) nd rfl (Or.inl rfl)) (pgs_cons (pg_tupQ (K := K) rfl (pg_tup (by rfl) (pgs_cons (pg_name (i := 3) nd rfl (Or.inl rfl)) (pgs_cons (pg_name (i := 4) nd rfl (Or.inl rfl)) pgs_nil)))) pgs_nil))))
      (pss_one (ps_if (pt_cmpR (neQ (K := K) rfl hr.units) (pv 3) (pv 4) (nomark _)) (pss_one (ps_ret (pv 2)))
      pss_nil)))
      (pss_one (ps_ret pe_non))), ?_⟩
  rintro ⟨workers, ⟨others, _⟩⟩
  show StR XP0 rmV [stv (α := (List Str)) workers, stv (α := (List Str)) others, Sl.any, Sl.any, Sl.any] _ (first_difference_r workers others)
  unfold first_difference_r
  exact (StR.loop (StL.forF (S := Unit) (R := (Option Int)) (Dh := (fun s_3 => [stv (α := (List Str)) workers, stv (α := (List Str)) others, Sl.any, Sl.any, Sl.any])) (EWI.enumZip (EW.var rfl) (EW.var rfl)) (.cons .refl (.cons .refl (.cons .refl (.cons .refl (.cons .refl .nil))))) (fun s_3 => (.pair (.name rfl rfl) fun _ => (.pair (.name rfl rfl) fun _ => (.name rfl rfl)))) (fun s_3 at_4 => (StF.ite (EWT.val (EW.op (EW.var rfl) (EW.var rfl) w_neS)) (StF.rt (Rt.val (EW.opt (EW.var rfl)))) (StF.ofW (StW.weak (f := fun _ => ()) StW.next fun _ => (.cons .refl (.cons .refl (.cons .any (.cons .any (.cons .any .nil)))))))))) fun s_3 => (StR.rt (Rt.val (EW.non (α := Int)))))
def compare_r {C : Addr} (roster : (Ros C)) (line : (List Str)) (other : (List Str)) (retirements : Int) : W ((Tp1 Str) ⊕ (Tp3 Str (List Str) Str)) := (W.bind (W.bind (W.pure ([] : (List (Int × Str)))) fun l0 => (W.chk (([] : (List (Int × Str))).length ≤ 1000000) (W.pure ([] : (List (Int × Str)))))) fun found_1 => (W.bind (W.bind (W.bind (W.pure roster) fun r_2 => (W.bind (W.pure ()) fun q_3 => (My.Roster_desks_m (C := C) r_2))) fun xs_40 => (W.fold (fun (desk_5 : Str) (s_4 : (List (Int × Str))) => (W.bind (W.bind (W.bind (W.bind (W.bind (W.pure roster) fun a_12 => (W.bind (W.bind (W.pure line) fun a_10 => (W.bind (W.bind (W.pure desk_5) fun a_8 => (W.bind (W.pure ()) fun q_9 => (W.pure (a_8, q_9)))) fun q_11 => (W.pure (a_10, q_11)))) fun q_13 => (W.pure (a_12, q_13)))) fun q_7 => (My.ordered_m (C := C) q_7.1 q_7.2.1 q_7.2.2.1)) fun a_23 => (W.bind (W.bind (W.bind (W.bind (W.pure roster) fun a_19 => (W.bind (W.bind (W.pure other) fun a_17 => (W.bind (W.bind (W.pure desk_5) fun a_15 => (W.bind (W.pure ()) fun q_16 => (W.pure (a_15, q_16)))) fun q_18 => (W.pure (a_17, q_18)))) fun q_20 => (W.pure (a_19, q_20)))) fun q_14 => (My.ordered_m (C := C) q_14.1 q_14.2.1 q_14.2.2.1)) fun a_21 => (W.bind (W.pure ()) fun q_22 => (W.pure (a_21, q_22)))) fun q_24 => (W.pure (a_23, q_24)))) fun q_6 => (My.first_difference_m q_6.1 q_6.2.1)) fun at_25 => (W.bind (W.bind (W.bind (W.bind (W.pure at_25) fun o_26 => (W.pure o_26.isSome)) fun b_30 => (W.ite b_30 (W.bind (W.bind (W.pure at_25) fun o_27 => (W.get o_27)) fun x_28 => (W.bind (W.pure retirements) fun y_29 => (W.pure (decide (x_28 ≤ y_29))))) (W.pure false))) fun c_39 => (W.ite c_39 (W.bind (W.bind (W.bind (W.bind (W.pure at_25) fun o_32 => (W.get o_32)) fun x_33 => (W.bind (W.pure desk_5) fun y_34 => (W.pure (x_33, y_34)))) fun a_35 => (W.chk (s_4.length ≤ 1000000) (W.pure (s_4 ++ [a_35])))) fun found_31 => (W.pure found_31)) (W.bind (W.pure ()) fun w_38 => (W.pure s_4)))) fun s_36 => (W.pure s_36)))) xs_40 found_1)) fun s_4 => (W.bind (W.bind (W.pure (s_4.length : Int)) fun x_41 => (W.bind (W.pure (0 : Int)) fun y_42 => (W.pure (decide (x_41 = y_42))))) fun c_43 => (W.ite c_43 (W.bind (W.bind (W.pure (Str.ofString "alike")) fun x_44 => (W.pure (Tp1.mk x_44))) fun o_45 => (W.pure (Sum.inl o_45 : ((Tp1 Str) ⊕ (Tp3 Str (List Str) Str))))) (W.bind (W.bind (W.pure s_4) fun l_46 => (W.chk (l_46 ≠ []) (W.pick (fun i => i ∈ l_46 ∧ ∀ y ∈ l_46, DatumOrd.lt y i = false)))) fun p_47 => (W.bind (W.bind (W.pure (Str.ofString "apart")) fun x_73 => (W.bind (W.bind (W.bind (W.bind (W.pure roster) fun a_67 => (W.bind (W.bind (W.pure line) fun a_65 => (W.bind (W.bind (W.pure p_47.2) fun a_63 => (W.bind (W.pure ()) fun q_64 => (W.pure (a_63, q_64)))) fun q_66 => (W.pure (a_65, q_66)))) fun q_68 => (W.pure (a_67, q_68)))) fun q_62 => (My.ordered_m (C := C) q_62.1 q_62.2.1 q_62.2.2.1)) fun x_70 => (W.bind (W.pure (none : Option Int)) fun lo_71 => (W.bind (W.bind (W.pure p_47.1) fun i_69 => (W.pure (some i_69))) fun hi_72 => (W.pure (cutL x_70 lo_71 hi_72))))) fun x_74 => (W.bind (W.pure p_47.2) fun x_75 => (W.pure (Tp3.mk x_73 x_74 x_75))))) fun o_76 => (W.pure (Sum.inr o_76 : ((Tp1 Str) ⊕ (Tp3 Str (List Str) Str))))))))))
def compare_m {C : Addr} (roster : (Ros C)) (line : (List Str)) (other : (List Str)) (retirements : Int) : W ((Tp1 Str) ⊕ (Tp3 Str (List Str) Str)) := (W.chk (([] : (List (Int × Str))).length ≤ 1000000) (W.bind (W.pure ([] : (List (Int × Str)))) fun found_1 => (W.bind (My.Roster_desks_m (C := C) roster) fun xs_40 => (W.bind (W.fold (fun (desk_5 : Str) (s_4 : (List (Int × Str))) => (W.bind (My.ordered_m (C := C) roster line desk_5) fun a_23 => (W.bind (My.ordered_m (C := C) roster other desk_5) fun a_21 => (W.bind (My.first_difference_m a_23 a_21) fun at_25 => (W.bind (W.ite at_25.isSome (W.bind (W.get at_25) fun x_28 => (W.pure (decide (x_28 ≤ retirements)))) (W.pure false)) fun c_39 => (W.ite c_39 (W.bind (W.get at_25) fun x_33 => (W.chk (s_4.length ≤ 1000000) (W.pure (s_4 ++ [(x_33, desk_5)])))) (W.pure s_4))))))) xs_40 found_1) fun s_4 => (W.ite (decide ((s_4.length : Int) = (0 : Int))) (W.pure (Sum.inl (Tp1.mk (Str.ofString "alike")) : ((Tp1 Str) ⊕ (Tp3 Str (List Str) Str)))) (W.chk (s_4 ≠ []) (W.bind (W.pick (fun i => i ∈ s_4 ∧ ∀ y ∈ s_4, DatumOrd.lt y i = false)) fun p_47 => (W.bind (My.ordered_m (C := C) roster line p_47.2) fun x_70 => (W.pure (Sum.inr (Tp3.mk (Str.ofString "apart") (cutL x_70 (none : Option Int) (some p_47.1)) p_47.2) : ((Tp1 Str) ⊕ (Tp3 Str (List Str) Str))))))))))))
theorem okw_compare (T : Tx K mg) : FnG P w K mg base CX0 3 T.a_compare T.d_compare p_compare (SpV XE0 (aC (α := (Ros T.c_Roster)) (aC (α := (List Str)) (aC (α := (List Str)) (aC (α := Int) aN)))) fun q => compare_m (C := T.c_Roster) q.1 q.2.1 q.2.2.1 q.2.2.2.1) := by
  refine okV (n := 4) T.f_compare sc_compare (ArFr.cons (ArFr.cons (ArFr.cons (ArFr.cons ArFr.nil)))) rfl fun cdv A' outer s H E gd hr => ?_
  have nd := sc_compare.nd
  have hu := hu_of hr
  have hu65 := hu65_of' hr
  refine ⟨_, (pss_cons (ps_set (i := 4) nd rfl (Or.inl rfl) (pe_lst pa_nil))
      (pss_cons (ps_for PassesOwn.never rfl (pi_list (pe_meth0 (pv 0) T.cl_Roster T.m_Roster_desks (ok_Roster_desks T) (hr.mono (by decide)) T.b_Roster_desks .nil pass0)) (pg_name (i := 5) nd rfl (Or.inl rfl))
      (pss_cons (ps_set (i := 6) nd rfl (Or.inl rfl) (pe_callG (okw_first_difference T) gd (hr.mono (by decide)) (by rfl) T.g_first_difference T.k_first_difference T.b_first_difference pass0 (pa_cons (pe_callG (okw_ordered T) gd (hr.mono (by decide)) (by rfl) T.g_ordered T.k_ordered T.b_ordered pass0 (pa_cons (pv 0) (pa_cons (pv 1) (pa_cons (pv 5) pa_nil)))) (pa_cons (pe_callG (okw_ordered T) gd (hr.mono (by decide)) (by rfl) T.g_ordered T.k_ordered T.b_ordered pass0 (pa_cons (pv 0) (pa_cons (pv 2) (pa_cons (pv 5) pa_nil)))) pa_nil))))
      (pss_one (ps_if (PW.pt (pw_and (pt_cmpR op_notN (pv 6) pe_non (nomark _)) (pw_and1 (pt_cmpR op_le (pv 6) (pv 3) (nomark _))))) (pss_one (ps_expr (pe_bm PySem.F.plainAttrs_list PySem.F.slot_list_append PySem.F.type_list_append mt_append (pv 4) (pa_cons (pe_tup (pa_cons (pv 6) (pa_cons (pv 5) pa_nil))) pa_nil))))
      pss_nil))))
      (pss_cons (ps_if (pt_cmpR (eqQ (K := K) rfl hr.units) (pe_callB (lenQ (K := K) rfl) (by rfl) T.z_len (by decide +kernel) (pa_cons (pv 4) pa_nil)) pe_int (nomark _)) (pss_one (ps_ret (pe_tup (pa_cons pe_str pa_nil))))
      pss_nil)
      (pss_cons (ps_asg (pe_callB (minOQ (K := K) (α := (Int × Str)) rfl rfl hr.units (by decide)) (by rfl) T.z_min (by decide +kernel) (pa_cons (pv 4) pa_nil)) (pg_tupQ (K := K) rfl (pg_tup (by rfl) (pgs_cons (pg_name (i := 7) nd rfl (Or.inl rfl)) (pgs_cons (pg_name (i := 5) nd rfl (Or.inl rfl)) pgs_nil)))))
      (pss_one (ps_ret (pe_tup (pa_cons pe_str (pa_cons (pe_slice (slQ (K := K) rfl) (pe_callG (okw_ordered T) gd (hr.mono (by decide)) (by rfl) T.g_ordered T.k_ordered T.b_ordered pass0 (pa_cons (pv 0) (pa_cons (pv 1) (pa_cons (pv 5) pa_nil)))) po_none (po_some (pv 7))) (pa_cons (pv 5) pa_nil)))))))))), ?_⟩
  rintro ⟨roster, ⟨line, ⟨other, ⟨retirements, _⟩⟩⟩⟩
  show StR XP0 rmV [stv (α := (Ros T.c_Roster)) roster, stv (α := (List Str)) line, stv (α := (List Str)) other, stv (α := Int) retirements, Sl.any, Sl.any, Sl.any, Sl.any] _ (compare_r (C := T.c_Roster) roster line other retirements)
  unfold compare_r
  exact (StR.seq (StW.setN (EWN.lst (α := (Int × Str)) EWL.nil) rfl) fun found_1 => (StR.seq (StW.forN (S := (List (Int × Str))) (Dh := (fun s_4 => [stv (α := (Ros T.c_Roster)) roster, stv (α := (List Str)) line, stv (α := (List Str)) other, stv (α := Int) retirements, own (α := (Int × Str)) s_4, Sl.any, Sl.any, Sl.any])) (EWI.list (EW.still (EWN.meth_desks (EW.var rfl) EWA.nil))) (.cons .refl (.cons .refl (.cons .refl (.cons .refl (.cons .refl (.cons .refl (.cons .refl (.cons .refl .nil)))))))) (fun s_4 => (.name rfl rfl)) (fun s_4 desk_5 => (StW.seq (StW.set (EW.call (EWA.cons (EW.still (EWN.call (EWA.cons (EW.var rfl) (EWA.cons (EW.var rfl) (EWA.cons (EW.var rfl) EWA.nil))))) (EWA.cons (EW.still (EWN.call (EWA.cons (EW.var rfl) (EWA.cons (EW.var rfl) (EWA.cons (EW.var rfl) EWA.nil))))) EWA.nil))) rfl) fun at_25 => (StW.weak (f := fun (s_36 : (List (Int × Str))) => s_36) (StW.ite (S := (List (Int × Str))) (D' := fun s_36 => [stv (α := (Ros T.c_Roster)) roster, stv (α := (List Str)) line, stv (α := (List Str)) other, stv (α := Int) retirements, own (α := (Int × Str)) s_36, stv (α := Str) desk_5, stv (α := (Option Int)) at_25, Sl.any]) (EWT.and (EWT.val (EW.notN (α := Int) (EW.var rfl))) (EWT.val (EW.op (EW.unopt (α := Int) (EW.var rfl)) (EW.var rfl) w_le))) (StW.weak (f := fun found_31 => found_31) (StW.append (i := 4) rfl (EW.pair (EW.unopt (α := Int) (EW.var rfl)) (EW.var rfl))) fun found_31 => (.cons .refl (.cons .refl (.cons .refl (.cons .refl (.cons .refl (.cons .refl (.cons .refl (.cons .refl .nil))))))))) (StW.weak StW.next fun _ => (.cons .refl (.cons .refl (.cons .refl (.cons .refl (.cons .refl (.cons .refl (.cons .refl (.cons .refl .nil)))))))))) fun s_36 => (.cons .refl (.cons .refl (.cons .refl (.cons .refl (.cons .refl (.cons .any (.cons .any (.cons .refl .nil)))))))))))) fun s_4 => (StR.cut (EWT.val (EW.op (EW.lenO (i := 4) rfl) EW.int w_eqI)) (Rt.val (EW.inl (α := (Tp1 Str)) (β := (Tp3 Str (List Str) Str)) (EW.tup1 EW.str))) (StR.seq (E1 := fun (p_47 : (Int × Str)) => [stv (α := (Ros T.c_Roster)) roster, stv (α := (List Str)) line, stv (α := (List Str)) other, stv (α := Int) retirements, own (α := (Int × Str)) s_4, stv (α := Str) p_47.2, Sl.any, stv (α := Int) p_47.1]) (StW.tgt (EW.lend (i := 4) rfl fun XP => (EW.minO (α := (Int × Str)) (EW.var rfl))) (.pair (.name rfl rfl) fun _ => (.name rfl rfl))) fun p_47 => (StR.rt (Rt.val (EW.inr (α := (Tp1 Str)) (β := (Tp3 Str (List Str) Str)) (EW.tup3 EW.str (EW.still (EWN.cut (EW.still (EWN.call (EWA.cons (EW.var rfl) (EWA.cons (EW.var rfl) (EWA.cons (EW.var rfl) EWA.nil))))) EWO.no (EWO.part (EW.var rfl)))) (EW.var rfl)))))))))
def law_order_r (parts : ((List Str) × (List (Str × (List Str))))) (line : (List Str)) (desk : Str) : W (List Str) := (W.bind (W.bind (W.bind (W.bind (W.pure parts) fun p_1 => (W.pure p_1.2)) fun l_2 => (W.chk ((l_2.map (·.1)).Nodup) (W.pure (Dct.mk l_2)))) fun x_3 => (W.bind (W.pure desk) fun i_4 => (W.chk ((x_3.items.map (·.1)).Nodup) (W.get (x_3.items.lookup i_4))))) fun crew_5 => (W.bind (W.pure line) fun l_9 => (W.chk (l_9.length ≤ 1000000) (W.mapf (fun (one_6 : Str) => (W.bind (W.pure one_6) fun x_7 => (W.bind (W.pure crew_5) fun y_8 => (W.pure (decide (x_7 ∈ y_8)))))) (fun (one_6 : Str) => (W.pure one_6)) l_9))))
def law_order_m (parts : ((List Str) × (List (Str × (List Str))))) (line : (List Str)) (desk : Str) : W (List Str) := (W.chk ((parts.2.map (·.1)).Nodup) (W.chk (((Dct.mk parts.2).items.map (·.1)).Nodup) (W.bind (W.get ((Dct.mk parts.2).items.lookup desk)) fun crew_5 => (W.chk (line.length ≤ 1000000) (W.mapf (fun (one_6 : Str) => (W.pure (decide (one_6 ∈ crew_5)))) (fun (one_6 : Str) => (W.pure one_6)) line)))))
theorem okw_law_order (T : Tx K mg) : FnG P w K mg base CX0 1 T.a_law_order T.d_law_order p_law_order (SpO XE0 (aC (α := ((List Str) × (List (Str × (List Str))))) (aC (α := (List Str)) (aC (α := Str) aN))) fun q => law_order_m q.1 q.2.1 q.2.2.1) := by
  refine okO (n := 3) T.f_law_order sc_law_order (ArFr.cons (ArFr.cons (ArFr.cons ArFr.nil))) rfl fun cdv A' outer s H E gd hr => ?_
  have nd := sc_law_order.nd
  have hu := hu_of hr
  have hu65 := hu65_of' hr
  refine ⟨_, (pss_cons (ps_set (i := 3) nd rfl (Or.inr rfl) (pe_dgetQ (by rfl) hu (pe_callTy (dctQ (K := K) rfl rfl) (by rfl) T.z_dict (by decide +kernel) (pa_cons (pe_ix (ixQ (K := K) rfl) (pv 0) pe_int (fun _ _ => rfl)) pa_nil)) (pv 2) (fun _ _ => rfl)))
      (pss_one (ps_ret (pe_lc (own := [("one", 4)]) (by rfl) nd (pi_list (pv 1)) (blkOk_by (own := [("one", 4)]) (N := n_law_order) (sc := defScope s_law_order) (by decide +kernel)) (fun _ _ _ _ _ => (pg_name (i := 4) nd rfl (Or.inl rfl))) (fun _ _ _ _ _ => (pts_one (pt_cmpR (inQ (K := K) rfl) (pv 4) (pv 3) (by rfl)))) (fun _ _ _ _ _ => (pv 4)))))), ?_⟩
  rintro ⟨parts, ⟨line, ⟨desk, _⟩⟩⟩
  show StR XP0 rmO [stv (α := ((List Str) × (List (Str × (List Str))))) parts, stv (α := (List Str)) line, stv (α := Str) desk, Sl.any, Sl.any] _ (law_order_r parts line desk)
  unfold law_order_r
  exact (StR.seq (StW.set (EW.dget (EW.dict (EW.ix1 (EW.var rfl))) (EW.var rfl)) rfl) fun crew_5 => (StR.rt (Rt.new (EWN.lcF (EWI.list (EW.var rfl)) (AllFree.mk rfl rfl AllFree.no) (.name rfl rfl) (fun one_6 => (EWT.val (EW.op (EW.var rfl) (EW.var rfl) w_inL))) (fun one_6 => (EW.var rfl))))))
def law_parting_r (parts : ((List Str) × (List (Str × (List Str))))) (line : (List Str)) (other : (List Str)) (bound : Int) : W ((Tp1 Str) ⊕ (Tp3 Str (List Str) Str)) := (W.bind (W.pure (none : (Option (Tp3 Str (List Str) Str)))) fun best_1 => (W.bind (W.bind (W.bind (W.bind (W.bind (W.pure parts) fun p_2 => (W.pure p_2.2)) fun l_4 => (W.chk (l_4.length ≤ 1000000) (W.mapf (fun (name_3 : (Str × (List Str))) => (W.pure true)) (fun (name_3 : (Str × (List Str))) => (W.pure name_3.1)) l_4))) fun l_5 => (W.chk (l_5.length < 64) (W.pick (fun ys => ys.Perm l_5 ∧ sortedS ys = true)))) fun xs_68 => (W.fold (fun (desk_7 : Str) (s_6 : (Option (Tp3 Str (List Str) Str))) => (W.bind (W.bind (W.bind (W.bind (W.pure parts) fun a_13 => (W.bind (W.bind (W.pure line) fun a_11 => (W.bind (W.bind (W.pure desk_7) fun a_9 => (W.bind (W.pure ()) fun q_10 => (W.pure (a_9, q_10)))) fun q_12 => (W.pure (a_11, q_12)))) fun q_14 => (W.pure (a_13, q_14)))) fun q_8 => (My.law_order_m q_8.1 q_8.2.1 q_8.2.2.1)) fun x_22 => (W.bind (W.bind (W.bind (W.pure parts) fun a_20 => (W.bind (W.bind (W.pure other) fun a_18 => (W.bind (W.bind (W.pure desk_7) fun a_16 => (W.bind (W.pure ()) fun q_17 => (W.pure (a_16, q_17)))) fun q_19 => (W.pure (a_18, q_19)))) fun q_21 => (W.pure (a_20, q_21)))) fun q_15 => (My.law_order_m q_15.1 q_15.2.1 q_15.2.2.1)) fun y_23 => (W.pure (x_22, y_23)))) fun p_24 => (W.bind (W.bind (W.bind (W.bind (W.pure p_24.1) fun l_25 => (W.pure (l_25.length : Int))) fun n_26 => (W.chk (-1000000 ≤ n_26 ∧ n_26 ≤ 1000000) (W.pure (rangeL n_26)))) fun l_34 => (W.chk (l_34.length ≤ 1000000) (W.mapf (fun (k_27 : Int) => (W.bind (W.bind (W.pure p_24.1) fun x_28 => (W.bind (W.pure k_27) fun i_29 => (W.get (PyAt x_28 i_29)))) fun x_32 => (W.bind (W.bind (W.pure p_24.2) fun x_30 => (W.bind (W.pure k_27) fun i_31 => (W.get (PyAt x_30 i_31)))) fun y_33 => (W.pure (!decide (x_32 = y_33)))))) (fun (k_27 : Int) => (W.pure k_27)) l_34))) fun places_35 => (W.bind (W.bind (W.bind (W.bind (W.pure places_35) fun x_36 => (W.bind (W.bind (W.pure ([] : (List Int))) fun l0 => (W.chk (([] : (List Int)).length ≤ 1000000) (W.pure ([] : (List Int))))) fun y_37 => (W.chk (PyD.ok x_36 ∧ PyD.ok y_37) (W.pure (!decide (x_36 = y_37)))))) fun b_52 => (W.ite b_52 (W.bind (W.bind (W.bind (W.pure places_35) fun x_38 => (W.bind (W.pure (0 : Int)) fun i_39 => (W.get (PyAt x_38 i_39)))) fun x_40 => (W.bind (W.pure bound) fun y_41 => (W.pure (decide (x_40 ≤ y_41))))) fun b_51 => (W.ite b_51 (W.bind (W.bind (W.pure s_6) fun o_42 => (W.pure o_42.isNone)) fun b_50 => (W.ite b_50 (W.pure true) (W.bind (W.bind (W.pure places_35) fun x_43 => (W.bind (W.pure (0 : Int)) fun i_44 => (W.get (PyAt x_43 i_44)))) fun x_48 => (W.bind (W.bind (W.bind (W.bind (W.pure s_6) fun o_45 => (W.get o_45)) fun p_46 => (W.pure p_46.x2)) fun l_47 => (W.pure (l_47.length : Int))) fun y_49 => (W.pure (decide (x_48 < y_49))))))) (W.pure false))) (W.pure false))) fun c_67 => (W.ite c_67 (W.bind (W.bind (W.bind (W.pure (Str.ofString "apart")) fun x_59 => (W.bind (W.bind (W.pure p_24.1) fun x_56 => (W.bind (W.pure (none : Option Int)) fun lo_57 => (W.bind (W.bind (W.bind (W.pure places_35) fun x_53 => (W.bind (W.pure (0 : Int)) fun i_54 => (W.get (PyAt x_53 i_54)))) fun i_55 => (W.pure (some i_55))) fun hi_58 => (W.pure (cutL x_56 lo_57 hi_58))))) fun x_60 => (W.bind (W.pure desk_7) fun x_61 => (W.pure (Tp3.mk x_59 x_60 x_61))))) fun o_63 => (W.pure (some o_63))) fun best_62 => (W.pure best_62)) (W.bind (W.pure ()) fun w_66 => (W.pure s_6)))) fun s_64 => (W.pure s_64))))) xs_68 best_1)) fun s_6 => (W.bind (W.pure s_6) fun o_69 => (Option.elim o_69 (W.bind (W.bind (W.pure (Str.ofString "alike")) fun x_72 => (W.pure (Tp1.mk x_72))) fun y_71 => (W.pure (Sum.inl y_71 : ((Tp1 Str) ⊕ (Tp3 Str (List Str) Str))))) (fun x_70 => (W.pure (Sum.inr x_70 : ((Tp1 Str) ⊕ (Tp3 Str (List Str) Str)))))))))
def law_parting_m (parts : ((List Str) × (List (Str × (List Str))))) (line : (List Str)) (other : (List Str)) (bound : Int) : W ((Tp1 Str) ⊕ (Tp3 Str (List Str) Str)) := (W.bind (W.pure (none : (Option (Tp3 Str (List Str) Str)))) fun best_1 => (W.chk (parts.2.length ≤ 1000000) (W.bind (W.mapf (fun (name_3 : (Str × (List Str))) => (W.pure true)) (fun (name_3 : (Str × (List Str))) => (W.pure name_3.1)) parts.2) fun l_5 => (W.chk (l_5.length < 64) (W.bind (W.pick (fun ys => ys.Perm l_5 ∧ sortedS ys = true)) fun xs_68 => (W.bind (W.fold (fun (desk_7 : Str) (s_6 : (Option (Tp3 Str (List Str) Str))) => (W.bind (My.law_order_m parts line desk_7) fun x_22 => (W.bind (My.law_order_m parts other desk_7) fun y_23 => (W.bind (W.pure (x_22, y_23)) fun p_24 => (W.chk (-1000000 ≤ (p_24.1.length : Int) ∧ (p_24.1.length : Int) ≤ 1000000) (W.chk ((rangeL (p_24.1.length : Int)).length ≤ 1000000) (W.bind (W.mapf (fun (k_27 : Int) => (W.bind (W.get (PyAt p_24.1 k_27)) fun x_32 => (W.bind (W.get (PyAt p_24.2 k_27)) fun y_33 => (W.pure (!decide (x_32 = y_33)))))) (fun (k_27 : Int) => (W.pure k_27)) (rangeL (p_24.1.length : Int))) fun places_35 => (W.chk (([] : (List Int)).length ≤ 1000000) (W.chk (PyD.ok places_35 ∧ PyD.ok ([] : (List Int))) (W.bind (W.ite (!decide (places_35 = ([] : (List Int)))) (W.bind (W.get (PyAt places_35 (0 : Int))) fun x_40 => (W.ite (decide (x_40 ≤ bound)) (W.ite s_6.isNone (W.pure true) (W.bind (W.get (PyAt places_35 (0 : Int))) fun x_48 => (W.bind (W.get s_6) fun p_46 => (W.pure (decide (x_48 < (p_46.x2.length : Int))))))) (W.pure false))) (W.pure false)) fun c_67 => (W.ite c_67 (W.bind (W.get (PyAt places_35 (0 : Int))) fun i_55 => (W.pure (some (Tp3.mk (Str.ofString "apart") (cutL p_24.1 (none : Option Int) (some i_55)) desk_7)))) (W.pure s_6)))))))))))) xs_68 best_1) fun s_6 => (Option.elim s_6 (W.pure (Sum.inl (Tp1.mk (Str.ofString "alike")) : ((Tp1 Str) ⊕ (Tp3 Str (List Str) Str)))) (fun x_70 => (W.pure (Sum.inr x_70 : ((Tp1 Str) ⊕ (Tp3 Str (List Str) Str))))))))))))
theorem okw_law_parting (T : Tx K mg) : FnG P w K mg base CX0 2 T.a_law_parting T.d_law_parting p_law_parting (SpV XE0 (aC (α := ((List Str) × (List (Str × (List Str))))) (aC (α := (List Str)) (aC (α := (List Str)) (aC (α := Int) aN)))) fun q => law_parting_m q.1 q.2.1 q.2.2.1 q.2.2.2.1) := by
  refine okV (n := 4) T.f_law_parting sc_law_parting (ArFr.cons (ArFr.cons (ArFr.cons (ArFr.cons ArFr.nil)))) rfl fun cdv A' outer s H E gd hr => ?_
  have nd := sc_law_parting.nd
  have hu := hu_of hr
  have hu65 := hu65_of' hr
  refine ⟨_, (pss_cons (ps_set (i := 4) nd rfl (Or.inl rfl) pe_non)
      (pss_cons (ps_for PassesOwn.never rfl (pi_list (pe_callB (sortedQ (K := K) rfl) (by rfl) T.z_sorted (by decide +kernel) (pa_cons (pe_lc (own := [("name", 9), ("crew", 10)]) (by rfl) nd (pi_list (pe_ix (ixQ (K := K) rfl) (pv 0) pe_int (fun _ _ => rfl))) (blkOk_by (own := [("name", 9), ("crew", 10)]) (N := n_law_parting) (sc := defScope s_law_parting) (by decide +kernel)) (fun _ _ _ _ _ => (pg_tupQ (K := K) rfl (pg_tup (by rfl) (pgs_cons (pg_name (i := 9) nd rfl (Or.inl rfl)) (pgs_cons (pg_name (i := 10) nd rfl (Or.inl rfl)) pgs_nil))))) (fun _ _ _ _ _ => pts_nil) (fun _ _ _ _ _ => (pv 9))) pa_nil))) (pg_name (i := 5) nd rfl (Or.inl rfl))
      (pss_cons (ps_asg (pe_tup (pa_cons (pe_callG (okw_law_order T) gd (hr.mono (by decide)) (by rfl) T.g_law_order T.k_law_order T.b_law_order pass0 (pa_cons (pv 0) (pa_cons (pv 1) (pa_cons (pv 5) pa_nil)))) (pa_cons (pe_callG (okw_law_order T) gd (hr.mono (by decide)) (by rfl) T.g_law_order T.k_law_order T.b_law_order pass0 (pa_cons (pv 0) (pa_cons (pv 2) (pa_cons (pv 5) pa_nil)))) pa_nil))) (pg_tupQ (K := K) rfl (pg_tup (by rfl) (pgs_cons (pg_name (i := 6) nd rfl (Or.inr rfl)) (pgs_cons (pg_name (i := 7) nd rfl (Or.inr rfl)) pgs_nil)))))
      (pss_cons (ps_setLc (i := 8) (own := [("k", 11)]) (by rfl) nd rfl rfl (sw_true rfl rfl rfl (by decide +kernel)) (pi_range1 (by rfl) T.z_range (pa_cons (pe_callB (lenQ (K := K) rfl) (by rfl) T.z_len (by decide +kernel) (pa_cons (pv 6) pa_nil)) pa_nil)) (blkOk_by (own := [("k", 11)]) (N := n_law_parting) (sc := defScope s_law_parting) (by decide +kernel)) (fun _ _ _ _ _ => (pg_name (i := 11) nd rfl (Or.inl rfl))) (fun _ _ _ _ _ => (pts_one (pt_cmpR (neQ (K := K) rfl hr.units) (pe_ix (ixQ (K := K) rfl) (pv 6) (pv 11) (fun _ _ => rfl)) (pe_ix (ixQ (K := K) rfl) (pv 7) (pv 11) (fun _ _ => rfl)) (nomark _)))) (fun _ _ _ _ _ => (pv 11)))
      (pss_one (ps_if (PW.pt (pw_and (pt_cmpR (neQ (K := K) rfl hr.units) (pv 8) (pe_lst pa_nil) (nomark _)) (pw_and (pt_cmpR op_le (pe_ix (ixQ (K := K) rfl) (pv 8) pe_int (fun _ _ => rfl)) (pv 3) (nomark _)) (pw_and1 (PW.pt (pw_or (pt_cmpR op_isN (pv 4) pe_non (nomark _)) (pw_or1 (pt_cmpR op_lt (pe_ix (ixQ (K := K) rfl) (pv 8) pe_int (fun _ _ => rfl)) (pe_callB (lenQ (K := K) rfl) (by rfl) T.z_len (by decide +kernel) (pa_cons (pe_ix (ixQ (K := K) rfl) (pv 4) pe_int (fun _ _ => rfl)) pa_nil)) (nomark _))))))))) (pss_one (ps_set (i := 4) nd rfl (Or.inl rfl) (pe_tup (pa_cons pe_str (pa_cons (pe_slice (slQ (K := K) rfl) (pv 6) po_none (po_some (pe_ix (ixQ (K := K) rfl) (pv 8) pe_int (fun _ _ => rfl)))) (pa_cons (pv 5) pa_nil))))))
      pss_nil)))))
      (pss_one (ps_ret (pe_orQ (K := K) rfl (pv 4) (pe_one (pe_tup (pa_cons pe_str pa_nil)))))))), ?_⟩
  rintro ⟨parts, ⟨line, ⟨other, ⟨bound, _⟩⟩⟩⟩
  show StR XP0 rmV [stv (α := ((List Str) × (List (Str × (List Str))))) parts, stv (α := (List Str)) line, stv (α := (List Str)) other, stv (α := Int) bound, Sl.any, Sl.any, Sl.any, Sl.any, Sl.any, Sl.any, Sl.any, Sl.any] _ (law_parting_r parts line other bound)
  unfold law_parting_r
  exact (StR.seq (StW.set (EW.non (α := (Tp3 Str (List Str) Str))) rfl) fun best_1 => (StR.seq (StW.forN (S := (Option (Tp3 Str (List Str) Str))) (Dh := (fun s_6 => [stv (α := ((List Str) × (List (Str × (List Str))))) parts, stv (α := (List Str)) line, stv (α := (List Str)) other, stv (α := Int) bound, stv (α := (Option (Tp3 Str (List Str) Str))) s_6, Sl.any, Sl.any, Sl.any, Sl.any, Sl.any, Sl.any, Sl.any])) (EWI.list (EW.still (EWN.sortS (EW.still (EWN.lcF (EWI.list (EW.ix1 (EW.var rfl))) (AllFree.mk rfl rfl (AllFree.mk rfl rfl AllFree.no)) (.pair (.name rfl rfl) fun _ => (.name rfl rfl)) (fun name_3 => EWT.yes) (fun name_3 => (EW.var rfl))))))) (.cons .refl (.cons .refl (.cons .refl (.cons .refl (.cons .refl (.cons .refl (.cons .refl (.cons .refl (.cons .refl (.cons .refl (.cons .refl (.cons .refl .nil)))))))))))) (fun s_6 => (.name rfl rfl)) (fun s_6 desk_7 => (StW.seq (E1 := fun (p_24 : ((List Str) × (List Str))) => [stv (α := ((List Str) × (List (Str × (List Str))))) parts, stv (α := (List Str)) line, stv (α := (List Str)) other, stv (α := Int) bound, stv (α := (Option (Tp3 Str (List Str) Str))) s_6, stv (α := Str) desk_7, stv (α := (List Str)) p_24.1, stv (α := (List Str)) p_24.2, Sl.any, Sl.any, Sl.any, Sl.any]) (StW.tgt (EW.pair (EW.still (EWN.call (EWA.cons (EW.var rfl) (EWA.cons (EW.var rfl) (EWA.cons (EW.var rfl) EWA.nil))))) (EW.still (EWN.call (EWA.cons (EW.var rfl) (EWA.cons (EW.var rfl) (EWA.cons (EW.var rfl) EWA.nil)))))) (.pair (.name rfl rfl) fun _ => (.name rfl rfl))) fun p_24 => (StW.seq (StW.set (EW.still (EWN.lcF (EWI.range1 (EW.lenL (EW.var rfl))) (AllFree.mk rfl rfl AllFree.no) (.name rfl rfl) (fun k_27 => (EWT.val (EW.op (EW.op (EW.var rfl) (EW.var rfl) w_ixL) (EW.op (EW.var rfl) (EW.var rfl) w_ixL) w_neS))) (fun k_27 => (EW.var rfl)))) rfl) fun places_35 => (StW.weak (f := fun (s_64 : (Option (Tp3 Str (List Str) Str))) => s_64) (StW.ite (S := (Option (Tp3 Str (List Str) Str))) (D' := fun s_64 => [stv (α := ((List Str) × (List (Str × (List Str))))) parts, stv (α := (List Str)) line, stv (α := (List Str)) other, stv (α := Int) bound, stv (α := (Option (Tp3 Str (List Str) Str))) s_64, stv (α := Str) desk_7, stv (α := (List Str)) p_24.1, stv (α := (List Str)) p_24.2, stv (α := (List Int)) places_35, Sl.any, Sl.any, Sl.any]) (EWT.and (EWT.val (EW.op (EW.var rfl) (EW.still (EWN.lst (α := Int) EWL.nil)) (w_neD (α := (List Int)) (by decide)))) (EWT.and (EWT.val (EW.op (EW.op (EW.var rfl) EW.int w_ixL) (EW.var rfl) w_le)) (EWT.or (EWT.val (EW.isN (α := (Tp3 Str (List Str) Str)) (EW.var rfl))) (EWT.val (EW.op (EW.op (EW.var rfl) EW.int w_ixL) (EW.lenL (EW.ixC (α := (Tp3 Str (List Str) Str)) (β := (List Str)) (EW.unopt (α := (Tp3 Str (List Str) Str)) (EW.var rfl)) w_ix32)) w_lt))))) (StW.weak (f := fun best_62 => best_62) (StW.set (EW.opt (EW.tup3 EW.str (EW.still (EWN.cut (EW.var rfl) EWO.no (EWO.part (EW.op (EW.var rfl) EW.int w_ixL)))) (EW.var rfl))) rfl) fun best_62 => (.cons .refl (.cons .refl (.cons .refl (.cons .refl (.cons .refl (.cons .refl (.cons .refl (.cons .refl (.cons .refl (.cons .refl (.cons .refl (.cons .refl .nil))))))))))))) (StW.weak StW.next fun _ => (.cons .refl (.cons .refl (.cons .refl (.cons .refl (.cons .refl (.cons .refl (.cons .refl (.cons .refl (.cons .refl (.cons .refl (.cons .refl (.cons .refl .nil)))))))))))))) fun s_64 => (.cons .refl (.cons .refl (.cons .refl (.cons .refl (.cons .refl (.cons .any (.cons .any (.cons .any (.cons .any (.cons .refl (.cons .refl (.cons .refl .nil))))))))))))))))) fun s_6 => (StR.rt (Rt.val (EW.orO3 (EW.var rfl) (EW.tup1 EW.str))))))
def law_near_line_r (line : (List Str)) : W (List Str) := (W.bind (W.bind (W.bind (W.bind (W.pure (4 : Int)) fun a_2 => (W.bind (W.pure ()) fun q_3 => (W.pure (a_2, q_3)))) fun q_1 => (My.law_take_m q_1.1)) fun x_4 => (W.bind (W.pure (0 : Int)) fun y_5 => (W.pure (decide (x_4 = y_5))))) fun c_6 => (W.ite c_6 (W.bind (W.pure line) fun l_7 => (W.chk (l_7.length ≤ 1000) (W.pick (fun ys => ys.Perm l_7)))) (W.bind (W.bind (W.pure line) fun l_8 => (W.pure l_8)) fun found_9 => (W.bind (W.bind (W.bind (W.bind (W.bind (W.pure (3 : Int)) fun a_11 => (W.bind (W.pure ()) fun q_12 => (W.pure (a_11, q_12)))) fun q_10 => (My.law_take_m q_10.1)) fun n_13 => (W.chk (-1000000 ≤ n_13 ∧ n_13 ≤ 1000000) (W.pure (rangeL n_13)))) fun xs_42 => (W.fold (fun (k_15 : Int) (s_14 : (List Str)) => (W.bind (W.bind (W.bind (W.bind (W.pure (s_14.length : Int)) fun a_17 => (W.bind (W.pure ()) fun q_18 => (W.pure (a_17, q_18)))) fun q_16 => (My.law_take_m q_16.1)) fun x_22 => (W.bind (W.bind (W.bind (W.pure (s_14.length : Int)) fun a_20 => (W.bind (W.pure ()) fun q_21 => (W.pure (a_20, q_21)))) fun q_19 => (My.law_take_m q_19.1)) fun y_23 => (W.pure (x_22, y_23)))) fun p_24 => (W.bind (W.bind (W.bind (W.pure (0 : Int)) fun x_34 => (W.bind (W.bind (W.pure p_24.1) fun x_32 => (W.bind (W.bind (W.bind (W.bind (W.pure (2 : Int)) fun a_26 => (W.bind (W.pure ()) fun q_27 => (W.pure (a_26, q_27)))) fun q_25 => (My.law_take_m q_25.1)) fun x_30 => (W.bind (W.bind (W.pure p_24.1) fun x_28 => (W.bind (W.pure (2 : Int)) fun y_29 => (W.chk (CDivW x_28 y_29) (W.pure (x_28 / y_29))))) fun y_31 => (W.chk (CMul x_30 y_31) (W.pure (x_30 * y_31))))) fun y_33 => (W.pure (x_32 - y_33)))) fun y_35 => (W.pure (max x_34 y_35)))) fun k_36 => (W.chk (0 ≤ k_36 ∧ s_14.length ≤ 1000000) (W.bind (W.get (s_14[k_36.toNat]?)) fun a_37 => (W.pure (s_14.eraseIdx k_36.toNat, a_37))))) fun q_38 => (W.bind (W.bind (W.pure p_24.2) fun j_40 => (W.bind (W.pure q_38.2) fun a_41 => (W.chk (q_38.1.length ≤ 1000000 ∧ 0 ≤ j_40 ∧ j_40 < 2 ^ 63) (W.pure (q_38.1.take j_40.toNat ++ [a_41] ++ q_38.1.drop j_40.toNat))))) fun found_39 => (W.pure found_39))))) xs_42 found_9)) fun s_14 => (W.pure s_14)))))
def law_near_line_m (line : (List Str)) : W (List Str) := (W.bind (My.law_take_m (4 : Int)) fun x_4 => (W.ite (decide (x_4 = (0 : Int))) (W.chk (line.length ≤ 1000) (W.pick (fun ys => ys.Perm line))) (W.bind (My.law_take_m (3 : Int)) fun n_13 => (W.chk (-1000000 ≤ n_13 ∧ n_13 ≤ 1000000) (W.fold (fun (k_15 : Int) (s_14 : (List Str)) => (W.bind (My.law_take_m (s_14.length : Int)) fun x_22 => (W.bind (My.law_take_m (s_14.length : Int)) fun y_23 => (W.bind (W.pure (x_22, y_23)) fun p_24 => (W.bind (My.law_take_m (2 : Int)) fun x_30 => (W.chk (CDivW p_24.1 (2 : Int)) (W.chk (CMul x_30 (p_24.1 / (2 : Int))) (W.chk (0 ≤ (max (0 : Int) (p_24.1 - (x_30 * (p_24.1 / (2 : Int))))) ∧ s_14.length ≤ 1000000) (W.bind (W.get (s_14[(max (0 : Int) (p_24.1 - (x_30 * (p_24.1 / (2 : Int))))).toNat]?)) fun a_37 => (W.bind (W.pure (s_14.eraseIdx (max (0 : Int) (p_24.1 - (x_30 * (p_24.1 / (2 : Int))))).toNat, a_37)) fun q_38 => (W.chk (q_38.1.length ≤ 1000000 ∧ 0 ≤ p_24.2 ∧ p_24.2 < 2 ^ 63) (W.pure (q_38.1.take p_24.2.toNat ++ [q_38.2] ++ q_38.1.drop p_24.2.toNat))))))))))))) (rangeL n_13) line)))))
theorem okw_law_near_line (T : Tx K mg) : FnG P w K mg base CX0 3 T.a_law_near_line T.d_law_near_line p_law_near_line (SpO XE0 (aB (aC (α := (List Str)) aN)) fun q => law_near_line_m q.1) := by
  refine okO (n := 2) T.f_law_near_line sc_law_near_line (ArFr.bag (ArFr.cons ArFr.nil)) rfl fun cdv A' outer s H E gd hr => ?_
  have nd := sc_law_near_line.nd
  have hu := hu_of hr
  have hu65 := hu65_of' hr
  refine ⟨_, (pss_cons (ps_if (pt_cmpR (eqQ (K := K) rfl hr.units) (pe_callG (okw_law_take T) gd (hr.mono (by decide)) (by rfl) T.g_law_take T.k_law_take T.b_law_take pass0 (pa_cons (pv 0) (pa_cons pe_int pa_nil))) pe_int (nomark _)) (pss_one (ps_ret (pe_callG (ok_law_mixed T) gd (hr.mono (by decide)) (by rfl) T.g_law_mixed T.k_law_mixed T.b_law_mixed pass0 (pa_cons (pv 0) (pa_cons (pv 1) pa_nil)))))
      pss_nil)
      (pss_cons (ps_set (i := 2) nd rfl (Or.inl rfl) (pe_callTy (listQ (K := K) rfl) (by rfl) T.z_list (by decide +kernel) (pa_cons (pv 1) pa_nil)))
      (pss_cons (ps_for PassesOwn.never rfl (pi_range1 (by rfl) T.z_range (pa_cons (pe_callG (okw_law_take T) gd (hr.mono (by decide)) (by rfl) T.g_law_take T.k_law_take T.b_law_take pass0 (pa_cons (pv 0) (pa_cons pe_int pa_nil))) pa_nil)) (pg_name (i := 3) nd rfl (Or.inl rfl))
      (pss_cons (ps_par (i := 4) (j := 5) (by rfl) nd rfl rfl (by decide) rfl rfl (pa_cons (pe_callG (okw_law_take T) gd (hr.mono (by decide)) (by rfl) T.g_law_take T.k_law_take T.b_law_take pass0 (pa_cons (pv 0) (pa_cons (pe_callB (lenQ (K := K) rfl) (by rfl) T.z_len (by decide +kernel) (pa_cons (pv 2) pa_nil)) pa_nil))) (pa_cons (pe_callG (okw_law_take T) gd (hr.mono (by decide)) (by rfl) T.g_law_take T.k_law_take T.b_law_take pass0 (pa_cons (pv 0) (pa_cons (pe_callB (lenQ (K := K) rfl) (by rfl) T.z_len (by decide +kernel) (pa_cons (pv 2) pa_nil)) pa_nil))) pa_nil)) (by rfl))
      (pss_cons (ps_set (i := 6) nd rfl (Or.inl rfl) (pe_bm PySem.F.plainAttrs_list PySem.F.slot_list_pop PySem.F.type_list_pop m_popAt (pv 2) (pa_cons (pe_callB (cr_max2 rfl) (by rfl) T.z_max (by decide +kernel) (pa_cons pe_int (pa_cons (pe_op op_sub (pv 4) (pe_op op_times (pe_callG (okw_law_take T) gd (hr.mono (by decide)) (by rfl) T.g_law_take T.k_law_take T.b_law_take pass0 (pa_cons (pv 0) (pa_cons pe_int pa_nil))) (pe_op op_fdivW (pv 4) pe_int))) pa_nil))) pa_nil)))
      (pss_one (ps_expr (pe_bm PySem.F.plainAttrs_list PySem.F.slot_list_insert PySem.F.type_list_insert m_insert (pv 2) (pa_cons (pv 5) (pa_cons (pv 6) pa_nil))))))))
      (pss_one (ps_ret (pv 2)))))), ?_⟩
  rintro ⟨line, _⟩
  show StR XP0 rmO [Sl.bag, stv (α := (List Str)) line, Sl.any, Sl.any, Sl.any, Sl.any, Sl.any] _ (law_near_line_r line)
  unfold law_near_line_r
  exact (StR.cut (EWT.val (EW.op (EW.call (EWA.bag rfl (EWA.cons EW.int EWA.nil))) EW.int w_eqI)) (Rt.new (EWN.mixed rfl (EW.var rfl))) (StR.seq (StW.setN (EWN.list (EW.var rfl)) rfl) fun found_9 => (StR.seq (StW.forN (S := (List Str)) (Dh := (fun s_14 => [Sl.bag, stv (α := (List Str)) line, own (α := Str) s_14, Sl.any, Sl.any, Sl.any, Sl.any])) (EWI.range1 (EW.call (EWA.bag rfl (EWA.cons EW.int EWA.nil)))) (.cons .refl (.cons .refl (.cons .refl (.cons .refl (.cons .refl (.cons .refl (.cons .refl .nil))))))) (fun s_14 => (.name rfl rfl)) (fun s_14 k_15 => (StW.seq (E1 := fun (p_24 : (Int × Int)) => [Sl.bag, stv (α := (List Str)) line, own (α := Str) s_14, stv (α := Int) k_15, stv (α := Int) p_24.1, stv (α := Int) p_24.2, Sl.any]) (StW.par (α := Int) (β := Int) (EW.call (EWA.bag rfl (EWA.cons (EW.lenO (i := 2) rfl) EWA.nil))) (EW.call (EWA.bag rfl (EWA.cons (EW.lenO (i := 2) rfl) EWA.nil))) rfl fun _ => rfl) fun p_24 => (StW.seq (E1 := fun (q_38 : ((List Str) × Str)) => [Sl.bag, stv (α := (List Str)) line, own (α := Str) q_38.1, stv (α := Int) k_15, stv (α := Int) p_24.1, stv (α := Int) p_24.2, stv (α := Str) q_38.2]) (StW.popAt (i := 2) (j := 6) rfl (fun _ => rfl) (EW.max2 EW.int (EW.op (EW.var rfl) (EW.op (EW.call (EWA.bag rfl (EWA.cons EW.int EWA.nil))) (EW.op (EW.var rfl) EW.int w_fdiv) w_mulI) w_subI))) fun q_38 => (StW.weak (f := fun found_39 => found_39) (StW.insert (i := 2) rfl (EW.var rfl) (EW.var rfl)) fun found_39 => (.cons .refl (.cons .refl (.cons .refl (.cons .any (.cons .any (.cons .any (.cons .any .nil)))))))))))) fun s_14 => (StR.rt (Rt.own (i := 2) rfl)))))
def law_same_r (parts : ((List Str) × (List (Str × (List Str))))) (line : (List Str)) (other : (List Str)) (many : Int) : W Bool := (W.bind (W.bind (W.bind (W.pure line) fun l_1 => (W.pure l_1)) fun x_3 => (W.bind (W.bind (W.pure other) fun l_2 => (W.pure l_2)) fun y_4 => (W.pure (x_3, y_4)))) fun p_5 => (W.thenL (W.bind (W.bind (W.pure (20 : Int)) fun n_6 => (W.chk (-1000000 ≤ n_6 ∧ n_6 ≤ 1000000) (W.pure (rangeL n_6)))) fun xs_105 => (W.loop (fun (k_8 : Int) (s_7 : ((List Str) × ((List Str) × Int))) => (W.bind (W.bind (W.bind (W.pure s_7.2.2) fun x_9 => (W.bind (W.pure (0 : Int)) fun y_10 => (W.pure (decide (y_10 < x_9))))) fun b_19 => (W.ite b_19 (W.bind (W.bind (W.pure s_7.1) fun x_11 => (W.bind (W.bind (W.pure ([] : (List Str))) fun l0 => (W.chk (([] : (List Str)).length ≤ 1000000) (W.pure ([] : (List Str))))) fun y_12 => (W.chk (PyD.ok x_11 ∧ PyD.ok y_12) (W.pure (!decide (x_11 = y_12)))))) fun b_18 => (W.ite b_18 (W.bind (W.bind (W.bind (W.pure (3 : Int)) fun a_14 => (W.bind (W.pure ()) fun q_15 => (W.pure (a_14, q_15)))) fun q_13 => (My.law_take_m q_13.1)) fun x_16 => (W.bind (W.pure (0 : Int)) fun y_17 => (W.pure (decide (x_16 = y_17))))) (W.pure false))) (W.pure false))) fun c_20 => (W.ite c_20 (W.bind (W.bind (W.pure s_7.1) fun x_25 => (W.bind (W.bind (W.bind (W.bind (W.pure s_7.1) fun l_22 => (W.pure (l_22.length : Int))) fun a_23 => (W.bind (W.pure ()) fun q_24 => (W.pure (a_23, q_24)))) fun q_21 => (My.law_take_m q_21.1)) fun i_26 => (W.get (PyAt x_25 i_26)))) fun worker_27 => (W.bind (W.bind (W.bind (W.bind (W.pure s_7.1) fun l_31 => (W.chk (l_31.length ≤ 1000000) (W.mapf (fun (w_28 : Str) => (W.bind (W.pure w_28) fun x_29 => (W.bind (W.pure worker_27) fun y_30 => (W.pure (!decide (x_29 = y_30)))))) (fun (w_28 : Str) => (W.pure w_28)) l_31))) fun x_38 => (W.bind (W.bind (W.pure s_7.2.1) fun l_35 => (W.chk (l_35.length ≤ 1000000) (W.mapf (fun (w_32 : Str) => (W.bind (W.pure w_32) fun x_33 => (W.bind (W.pure worker_27) fun y_34 => (W.pure (!decide (x_33 = y_34)))))) (fun (w_32 : Str) => (W.pure w_32)) l_35))) fun x_39 => (W.bind (W.bind (W.pure s_7.2.2) fun x_36 => (W.bind (W.pure (1 : Int)) fun y_37 => (W.pure (x_36 - y_37)))) fun x_40 => (W.pure (Tp3.mk x_38 x_39 x_40))))) fun p_41 => (W.pure (p_41.x1, (p_41.x2, p_41.x3)))) fun w_42 => (W.pure (Fl.nx w_42 : Fl ((List Str) × ((List Str) × Int)) Bool ((List Str) × ((List Str) × Int)))))) (W.bind (W.bind (W.bind (W.pure parts) fun p_43 => (W.pure p_43.2)) fun x_44 => (W.bind (W.bind (W.pure ([] : (List (Str × (List Str))))) fun l0 => (W.chk (([] : (List (Str × (List Str)))).length ≤ 1000000) (W.pure ([] : (List (Str × (List Str))))))) fun y_45 => (W.chk (PyD.ok x_44 ∧ PyD.ok y_45) (W.pure (!decide (x_44 = y_45)))))) fun c_46 => (W.ite c_46 (W.bind (W.bind (W.bind (W.bind (W.pure parts) fun p_47 => (W.pure p_47.2)) fun x_53 => (W.bind (W.bind (W.bind (W.bind (W.bind (W.pure parts) fun p_49 => (W.pure p_49.2)) fun l_50 => (W.pure (l_50.length : Int))) fun a_51 => (W.bind (W.pure ()) fun q_52 => (W.pure (a_51, q_52)))) fun q_48 => (My.law_take_m q_48.1)) fun i_54 => (W.get (PyAt x_53 i_54)))) fun p_55 => (W.pure p_55.2)) fun crew_56 => (W.bind (W.bind (W.bind (W.bind (W.pure s_7.1) fun x_59 => (W.bind (W.bind (W.pure s_7.2.1) fun x_57 => (W.bind (W.pure ([] : (List (List Str)))) fun r_58 => (W.pure (x_57 :: r_58)))) fun r_60 => (W.pure (x_59 :: r_60)))) fun l_61 => (W.chk (l_61.length ≤ 1000000) (W.pure l_61))) fun l_71 => (W.chk (l_71.length ≤ 1000000) (W.mapf (fun (some_62 : (List Str)) => (W.pure true)) (fun (some_62 : (List Str)) => (W.bind (W.bind (W.pure some_62) fun l_66 => (W.chk (l_66.length ≤ 1000000) (W.mapf (fun (w_63 : Str) => (W.bind (W.pure w_63) fun x_64 => (W.bind (W.pure crew_56) fun y_65 => (W.pure (decide (x_64 ∈ y_65)))))) (fun (w_63 : Str) => (W.pure w_63)) l_66))) fun x_68 => (W.bind (W.pure (none : Option Int)) fun lo_69 => (W.bind (W.bind (W.pure (1 : Int)) fun i_67 => (W.pure (some i_67))) fun hi_70 => (W.pure (cutL x_68 lo_69 hi_70)))))) l_71))) fun serversof_72 => (W.bind (W.bind (W.bind (W.pure serversof_72) fun x_73 => (W.bind (W.pure (0 : Int)) fun i_74 => (W.get (PyAt x_73 i_74)))) fun x_77 => (W.bind (W.bind (W.pure serversof_72) fun x_75 => (W.bind (W.pure (1 : Int)) fun i_76 => (W.get (PyAt x_75 i_76)))) fun y_78 => (W.chk (PyD.ok x_77 ∧ PyD.ok y_78) (W.pure (!decide (x_77 = y_78)))))) fun c_79 => (W.ite c_79 (W.thenF (W.bind (W.pure false) fun r_80 => (W.pure (Fl.rt r_80 : Fl Empty Bool ((List Str) × ((List Str) × Int))))) (fun x => nomatch x)) (W.bind (W.bind (W.bind (W.pure serversof_72) fun x_81 => (W.bind (W.pure (0 : Int)) fun i_82 => (W.get (PyAt x_81 i_82)))) fun x_89 => (W.bind (W.bind (W.pure s_7.1) fun l_88 => (W.chk (l_88.length ≤ 1000000) (W.mapf (fun (w_83 : Str) => (W.bind (W.pure w_83) fun x_86 => (W.bind (W.bind (W.pure serversof_72) fun x_84 => (W.bind (W.pure (0 : Int)) fun i_85 => (W.get (PyAt x_84 i_85)))) fun y_87 => (W.pure (!decide (x_86 ∈ y_87)))))) (fun (w_83 : Str) => (W.pure w_83)) l_88))) fun y_90 => (W.chk (x_89.length + y_90.length ≤ 1000000) (W.pure (x_89 ++ y_90))))) fun one_91 => (W.bind (W.bind (W.bind (W.bind (W.pure serversof_72) fun x_92 => (W.bind (W.pure (0 : Int)) fun i_93 => (W.get (PyAt x_92 i_93)))) fun x_100 => (W.bind (W.bind (W.pure s_7.2.1) fun l_99 => (W.chk (l_99.length ≤ 1000000) (W.mapf (fun (w_94 : Str) => (W.bind (W.pure w_94) fun x_97 => (W.bind (W.bind (W.pure serversof_72) fun x_95 => (W.bind (W.pure (0 : Int)) fun i_96 => (W.get (PyAt x_95 i_96)))) fun y_98 => (W.pure (!decide (x_97 ∈ y_98)))))) (fun (w_94 : Str) => (W.pure w_94)) l_99))) fun y_101 => (W.chk (x_100.length + y_101.length ≤ 1000000) (W.pure (x_100 ++ y_101))))) fun two_102 => (W.pure (one_91, (two_102, s_7.2.2)))) fun w_103 => (W.pure (Fl.nx w_103 : Fl ((List Str) × ((List Str) × Int)) Bool ((List Str) × ((List Str) × Int)))))))))) (W.bind (W.bind (W.pure ()) fun w_104 => (W.pure (s_7.1, (s_7.2.1, s_7.2.2)))) fun w_104' => (W.pure (Fl.nx w_104')))))))) xs_105 (p_5.1, (p_5.2, many)))) (fun s_7 => (W.pure true))))
def law_same_m (parts : ((List Str) × (List (Str × (List Str))))) (line : (List Str)) (other : (List Str)) (many : Int) : W Bool := (W.bind (W.pure (line, other)) fun p_5 => (W.thenL (W.chk (-1000000 ≤ (20 : Int) ∧ (20 : Int) ≤ 1000000) (W.loop (fun (k_8 : Int) (s_7 : ((List Str) × ((List Str) × Int))) => (W.bind (W.ite (decide ((0 : Int) < s_7.2.2)) (W.chk (([] : (List Str)).length ≤ 1000000) (W.chk (PyD.ok s_7.1 ∧ PyD.ok ([] : (List Str))) (W.ite (!decide (s_7.1 = ([] : (List Str)))) (W.bind (My.law_take_m (3 : Int)) fun x_16 => (W.pure (decide (x_16 = (0 : Int))))) (W.pure false)))) (W.pure false)) fun c_20 => (W.ite c_20 (W.bind (My.law_take_m (s_7.1.length : Int)) fun i_26 => (W.bind (W.get (PyAt s_7.1 i_26)) fun worker_27 => (W.chk (s_7.1.length ≤ 1000000) (W.bind (W.mapf (fun (w_28 : Str) => (W.pure (!decide (w_28 = worker_27)))) (fun (w_28 : Str) => (W.pure w_28)) s_7.1) fun x_38 => (W.chk (s_7.2.1.length ≤ 1000000) (W.bind (W.mapf (fun (w_32 : Str) => (W.pure (!decide (w_32 = worker_27)))) (fun (w_32 : Str) => (W.pure w_32)) s_7.2.1) fun x_39 => (W.bind (W.pure (Tp3.mk x_38 x_39 (s_7.2.2 - (1 : Int)))) fun p_41 => (W.pure (Fl.nx (p_41.x1, (p_41.x2, p_41.x3)) : Fl ((List Str) × ((List Str) × Int)) Bool ((List Str) × ((List Str) × Int))))))))))) (W.chk (([] : (List (Str × (List Str)))).length ≤ 1000000) (W.chk (PyD.ok parts.2 ∧ PyD.ok ([] : (List (Str × (List Str))))) (W.ite (!decide (parts.2 = ([] : (List (Str × (List Str)))))) (W.bind (My.law_take_m (parts.2.length : Int)) fun i_54 => (W.bind (W.get (PyAt parts.2 i_54)) fun p_55 => (W.chk ((s_7.1 :: (s_7.2.1 :: ([] : (List (List Str))))).length ≤ 1000000) (W.chk ((s_7.1 :: (s_7.2.1 :: ([] : (List (List Str))))).length ≤ 1000000) (W.bind (W.mapf (fun (some_62 : (List Str)) => (W.pure true)) (fun (some_62 : (List Str)) => (W.chk (some_62.length ≤ 1000000) (W.bind (W.mapf (fun (w_63 : Str) => (W.pure (decide (w_63 ∈ p_55.2)))) (fun (w_63 : Str) => (W.pure w_63)) some_62) fun x_68 => (W.pure (cutL x_68 (none : Option Int) (some (1 : Int))))))) (s_7.1 :: (s_7.2.1 :: ([] : (List (List Str)))))) fun serversof_72 => (W.bind (W.get (PyAt serversof_72 (0 : Int))) fun x_77 => (W.bind (W.get (PyAt serversof_72 (1 : Int))) fun y_78 => (W.chk (PyD.ok x_77 ∧ PyD.ok y_78) (W.ite (!decide (x_77 = y_78)) (W.thenF (W.pure (Fl.rt false : Fl Empty Bool ((List Str) × ((List Str) × Int)))) (fun x => nomatch x)) (W.bind (W.get (PyAt serversof_72 (0 : Int))) fun x_89 => (W.chk (s_7.1.length ≤ 1000000) (W.bind (W.mapf (fun (w_83 : Str) => (W.bind (W.get (PyAt serversof_72 (0 : Int))) fun y_87 => (W.pure (!decide (w_83 ∈ y_87))))) (fun (w_83 : Str) => (W.pure w_83)) s_7.1) fun y_90 => (W.chk (x_89.length + y_90.length ≤ 1000000) (W.bind (W.pure (x_89 ++ y_90)) fun one_91 => (W.bind (W.get (PyAt serversof_72 (0 : Int))) fun x_100 => (W.chk (s_7.2.1.length ≤ 1000000) (W.bind (W.mapf (fun (w_94 : Str) => (W.bind (W.get (PyAt serversof_72 (0 : Int))) fun y_98 => (W.pure (!decide (w_94 ∈ y_98))))) (fun (w_94 : Str) => (W.pure w_94)) s_7.2.1) fun y_101 => (W.chk (x_100.length + y_101.length ≤ 1000000) (W.bind (W.pure (x_100 ++ y_101)) fun two_102 => (W.pure (Fl.nx (one_91, (two_102, s_7.2.2)) : Fl ((List Str) × ((List Str) × Int)) Bool ((List Str) × ((List Str) × Int))))))))))))))))))))))) (W.pure (Fl.nx (s_7.1, (s_7.2.1, s_7.2.2)))))))))) (rangeL (20 : Int)) (p_5.1, (p_5.2, many)))) (fun s_7 => (W.pure true))))
theorem okw_law_same (T : Tx K mg) : FnG P w K mg base CX0 2 T.a_law_same T.d_law_same p_law_same (SpV XE0 (aB (aC (α := ((List Str) × (List (Str × (List Str))))) (aC (α := (List Str)) (aC (α := (List Str)) (aC (α := Int) aN))))) fun q => law_same_m q.1 q.2.1 q.2.2.1 q.2.2.2.1) := by
  refine okV (n := 5) T.f_law_same sc_law_same (ArFr.bag (ArFr.cons (ArFr.cons (ArFr.cons (ArFr.cons ArFr.nil))))) rfl fun cdv A' outer s H E gd hr => ?_
  have nd := sc_law_same.nd
  have hu := hu_of hr
  have hu65 := hu65_of' hr
  refine ⟨_, (pss_cons (ps_par (i := 5) (j := 6) (by rfl) nd rfl rfl (by decide) rfl rfl (pa_cons (pe_callTy (listQ (K := K) rfl) (by rfl) T.z_list (by decide +kernel) (pa_cons (pv 2) pa_nil)) (pa_cons (pe_callTy (listQ (K := K) rfl) (by rfl) T.z_list (by decide +kernel) (pa_cons (pv 3) pa_nil)) pa_nil)) (by rfl))
      (pss_cons (ps_for PassesOwn.never rfl (pi_range1 (by rfl) T.z_range (pa_cons pe_int pa_nil)) (pg_name (i := 7) nd rfl (Or.inl rfl))
      (pss_one (ps_if (PW.pt (pw_and (pt_cmpR op_gt (pv 4) pe_int (nomark _)) (pw_and (pt_cmpR (neQ (K := K) rfl hr.units) (pv 5) (pe_lst pa_nil) (nomark _)) (pw_and1 (pt_cmpR (eqQ (K := K) rfl hr.units) (pe_callG (okw_law_take T) gd (hr.mono (by decide)) (by rfl) T.g_law_take T.k_law_take T.b_law_take pass0 (pa_cons (pv 0) (pa_cons pe_int pa_nil))) pe_int (nomark _)))))) (pss_cons (ps_set (i := 8) nd rfl (Or.inr rfl) (pe_ix (ixQ (K := K) rfl) (pv 5) (pe_callG (okw_law_take T) gd (hr.mono (by decide)) (by rfl) T.g_law_take T.k_law_take T.b_law_take pass0 (pa_cons (pv 0) (pa_cons (pe_callB (lenQ (K := K) rfl) (by rfl) T.z_len (by decide +kernel) (pa_cons (pv 5) pa_nil)) pa_nil))) (fun _ _ => rfl)))
      (pss_one (ps_par3 (i := 5) (j := 6) (l := 4) (by rfl) nd rfl rfl rfl (by decide) (by decide) (by decide) rfl rfl rfl (pa_cons (pe_lc (own := [("w", 11)]) (by rfl) nd (pi_list (pv 5)) (blkOk_by (own := [("w", 11)]) (N := n_law_same) (sc := defScope s_law_same) (by decide +kernel)) (fun _ _ _ _ _ => (pg_name (i := 11) nd rfl (Or.inl rfl))) (fun _ _ _ _ _ => (pts_one (pt_cmpR (neQ (K := K) rfl hr.units) (pv 11) (pv 8) (nomark _)))) (fun _ _ _ _ _ => (pv 11))) (pa_cons (pe_lc (own := [("w", 11)]) (by rfl) nd (pi_list (pv 6)) (blkOk_by (own := [("w", 11)]) (N := n_law_same) (sc := defScope s_law_same) (by decide +kernel)) (fun _ _ _ _ _ => (pg_name (i := 11) nd rfl (Or.inl rfl))) (fun _ _ _ _ _ => (pts_one (pt_cmpR (neQ (K := K) rfl hr.units) (pv 11) (pv 8) (nomark _)))) (fun _ _ _ _ _ => (pv 11))) (pa_cons (pe_op op_sub (pv 4) pe_int) pa_nil))) (by rfl))))
      (pss_one (ps_if (pt_cmpR (neQ (K := K) rfl hr.units) (pe_ix (ixQ (K := K) rfl) (pv 1) pe_int (fun _ _ => rfl)) (pe_lst pa_nil) (nomark _)) (pss_cons (ps_set (i := 9) nd rfl (Or.inr rfl) (pe_ix (ixQ (K := K) rfl) (pe_ix (ixQ (K := K) rfl) (pe_ix (ixQ (K := K) rfl) (pv 1) pe_int (fun _ _ => rfl)) (pe_callG (okw_law_take T) gd (hr.mono (by decide)) (by rfl) T.g_law_take T.k_law_take T.b_law_take pass0 (pa_cons (pv 0) (pa_cons (pe_callB (lenQ (K := K) rfl) (by rfl) T.z_len (by decide +kernel) (pa_cons (pe_ix (ixQ (K := K) rfl) (pv 1) pe_int (fun _ _ => rfl)) pa_nil)) pa_nil))) (fun _ _ => rfl)) pe_int (fun _ _ => rfl)))
      (pss_cons (ps_set (i := 10) nd rfl (Or.inr rfl) (pe_lc (own := [("some", 12)]) (by rfl) nd (pi_list (pe_lst (pa_cons (pv 5) (pa_cons (pv 6) pa_nil)))) (blkOk_by (own := [("some", 12)]) (N := n_law_same) (sc := defScope s_law_same) (by decide +kernel)) (fun _ _ _ _ _ => (pg_name (i := 12) nd rfl (Or.inl rfl))) (fun _ _ _ _ _ => pts_nil) (fun _ _ _ _ _ => (pe_slice (slQ (K := K) rfl) (pe_lc (own := [("w", 11)]) (by rfl) nd (pi_listQ (K := K) rfl (pv 12)) (blkOk_by (own := [("w", 11)]) (N := n_law_same) (sc := ⟨.function, [(".0", .local), ("some", .local), ("crew", .cell)], false, false, []⟩) (by decide +kernel)) (fun _ _ _ _ _ => (pg_name (i := 11) nd rfl (Or.inl rfl))) (fun _ _ _ _ _ => (pts_one (pt_cmpR (inQ (K := K) rfl) (pv 11) (pv 9) (by rfl)))) (fun _ _ _ _ _ => (pv 11))) po_none (po_some pe_int)))))
      (pss_cons (ps_if (pt_cmpR (neQ (K := K) rfl hr.units) (pe_ix (ixQ (K := K) rfl) (pv 10) pe_int (fun _ _ => rfl)) (pe_ix (ixQ (K := K) rfl) (pv 10) pe_int (fun _ _ => rfl)) (nomark _)) (pss_one (ps_ret pe_bl))
      pss_nil)
      (pss_cons (ps_set (i := 5) nd rfl (Or.inl rfl) (pe_op op_plus (pe_ix (ixQ (K := K) rfl) (pv 10) pe_int (fun _ _ => rfl)) (pe_lc (own := [("w", 11)]) (by rfl) nd (pi_list (pv 5)) (blkOk_by (own := [("w", 11)]) (N := n_law_same) (sc := defScope s_law_same) (by decide +kernel)) (fun _ _ _ _ _ => (pg_name (i := 11) nd rfl (Or.inl rfl))) (fun _ _ _ _ _ => (pts_one (pt_cmpR (notInQ (K := K) rfl) (pv 11) (pe_ix (ixQ (K := K) rfl) (pv 10) pe_int (fun _ _ => rfl)) (by rfl)))) (fun _ _ _ _ _ => (pv 11)))))
      (pss_one (ps_set (i := 6) nd rfl (Or.inl rfl) (pe_op op_plus (pe_ix (ixQ (K := K) rfl) (pv 10) pe_int (fun _ _ => rfl)) (pe_lc (own := [("w", 11)]) (by rfl) nd (pi_list (pv 6)) (blkOk_by (own := [("w", 11)]) (N := n_law_same) (sc := defScope s_law_same) (by decide +kernel)) (fun _ _ _ _ _ => (pg_name (i := 11) nd rfl (Or.inl rfl))) (fun _ _ _ _ _ => (pts_one (pt_cmpR (notInQ (K := K) rfl) (pv 11) (pe_ix (ixQ (K := K) rfl) (pv 10) pe_int (fun _ _ => rfl)) (by rfl)))) (fun _ _ _ _ _ => (pv 11))))))))))
      pss_nil)))))
      (pss_one (ps_ret pe_bl)))), ?_⟩
  rintro ⟨parts, ⟨line, ⟨other, ⟨many, _⟩⟩⟩⟩
  show StR XP0 rmV [Sl.bag, stv (α := ((List Str) × (List (Str × (List Str))))) parts, stv (α := (List Str)) line, stv (α := (List Str)) other, stv (α := Int) many, Sl.any, Sl.any, Sl.any, Sl.any, Sl.any, Sl.any, Sl.any, Sl.any] _ (law_same_r parts line other many)
  unfold law_same_r
  exact (StR.seq (E1 := fun (p_5 : ((List Str) × (List Str))) => [Sl.bag, stv (α := ((List Str) × (List (Str × (List Str))))) parts, stv (α := (List Str)) line, stv (α := (List Str)) other, stv (α := Int) many, stv (α := (List Str)) p_5.1, stv (α := (List Str)) p_5.2, Sl.any, Sl.any, Sl.any, Sl.any, Sl.any, Sl.any]) (StW.par (α := (List Str)) (β := (List Str)) (EW.still (EWN.list (EW.var rfl))) (EW.still (EWN.list (EW.var rfl))) rfl fun _ => rfl) fun p_5 => (StR.loop (StL.forF (S := ((List Str) × ((List Str) × Int))) (R := Bool) (Dh := (fun s_7 => [Sl.bag, stv (α := ((List Str) × (List (Str × (List Str))))) parts, stv (α := (List Str)) line, stv (α := (List Str)) other, stv (α := Int) s_7.2.2, stv (α := (List Str)) s_7.1, stv (α := (List Str)) s_7.2.1, Sl.any, Sl.any, Sl.any, Sl.any, Sl.any, Sl.any])) (EWI.range1 EW.int) (.cons .refl (.cons .refl (.cons .refl (.cons .refl (.cons .refl (.cons .refl (.cons .refl (.cons .refl (.cons .refl (.cons .refl (.cons .refl (.cons .refl (.cons .refl .nil))))))))))))) (fun s_7 => (.name rfl rfl)) (fun s_7 k_8 => (StF.ite (EWT.and (EWT.val (EW.op (EW.var rfl) EW.int w_gt)) (EWT.and (EWT.val (EW.op (EW.var rfl) (EW.still (EWN.lst (α := Str) EWL.nil)) (w_neD (α := (List Str)) (by decide)))) (EWT.val (EW.op (EW.call (EWA.bag rfl (EWA.cons EW.int EWA.nil))) EW.int w_eqI)))) (StF.seq (StW.set (EW.op (EW.var rfl) (EW.call (EWA.bag rfl (EWA.cons (EW.lenL (EW.var rfl)) EWA.nil))) w_ixL) rfl) fun worker_27 => (StF.ofW (StW.weak (f := fun (p_41 : (Tp3 (List Str) (List Str) Int)) => (p_41.x1, (p_41.x2, p_41.x3))) (StW.par3 (α := (List Str)) (β := (List Str)) (γ := Int) (EW.still (EWN.lcF (EWI.list (EW.var rfl)) (AllFree.mk rfl rfl AllFree.no) (.name rfl rfl) (fun w_28 => (EWT.val (EW.op (EW.var rfl) (EW.var rfl) w_neS))) (fun w_28 => (EW.var rfl)))) (EW.still (EWN.lcF (EWI.list (EW.var rfl)) (AllFree.mk rfl rfl AllFree.no) (.name rfl rfl) (fun w_32 => (EWT.val (EW.op (EW.var rfl) (EW.var rfl) w_neS))) (fun w_32 => (EW.var rfl)))) (EW.op (EW.var rfl) EW.int w_subI) rfl (fun _ => rfl) fun _ _ => rfl) fun p_41 => (.cons .refl (.cons .refl (.cons .refl (.cons .refl (.cons .refl (.cons .refl (.cons .refl (.cons .any (.cons .any (.cons .refl (.cons .refl (.cons .refl (.cons .refl .nil)))))))))))))))) (StF.ite (EWT.val (EW.op (EW.ix1 (EW.var rfl)) (EW.still (EWN.lst (α := (Str × (List Str))) EWL.nil)) (w_neD (α := (List (Str × (List Str)))) (by decide)))) (StF.seq (StW.set (EW.ix1 (EW.op (EW.ix1 (EW.var rfl)) (EW.call (EWA.bag rfl (EWA.cons (EW.lenL (EW.ix1 (EW.var rfl))) EWA.nil))) w_ixL)) rfl) fun crew_56 => (StF.seq (StW.set (EW.still (EWN.lcF (EWI.list (EW.still (EWN.lst (EWL.cons (EW.var rfl) (EWL.cons (EW.var rfl) (EWL.nil (α := (List Str)))))))) (AllFree.mk rfl rfl AllFree.no) (.name rfl rfl) (fun some_62 => EWT.yes) (fun some_62 => (EW.still (EWN.cut (EW.still (EWN.lcF (EWI.list (EW.var rfl)) (AllFree.mk rfl rfl AllFree.no) (.name rfl rfl) (fun w_63 => (EWT.val (EW.op (EW.var rfl) (EW.var rfl) w_inL))) (fun w_63 => (EW.var rfl)))) EWO.no (EWO.part EW.int)))))) rfl) fun serversof_72 => (StF.cut (EWT.val (EW.op (EW.op (EW.var rfl) EW.int w_ixL) (EW.op (EW.var rfl) EW.int w_ixL) (w_neD (α := (List Str)) (by decide)))) (StF.rt (Rt.val EW.bl)) (StF.seq (StW.set (EW.still (EWN.op (EW.op (EW.var rfl) EW.int w_ixL) (EW.still (EWN.lcF (EWI.list (EW.var rfl)) (AllFree.mk rfl rfl AllFree.no) (.name rfl rfl) (fun w_83 => (EWT.val (EW.op (EW.var rfl) (EW.op (EW.var rfl) EW.int w_ixL) w_notInL))) (fun w_83 => (EW.var rfl)))) w_addL)) rfl) fun one_91 => (StF.ofW (StW.weak (f := fun two_102 => (one_91, (two_102, s_7.2.2))) (StW.set (EW.still (EWN.op (EW.op (EW.var rfl) EW.int w_ixL) (EW.still (EWN.lcF (EWI.list (EW.var rfl)) (AllFree.mk rfl rfl AllFree.no) (.name rfl rfl) (fun w_94 => (EWT.val (EW.op (EW.var rfl) (EW.op (EW.var rfl) EW.int w_ixL) w_notInL))) (fun w_94 => (EW.var rfl)))) w_addL)) rfl) fun two_102 => (.cons .refl (.cons .refl (.cons .refl (.cons .refl (.cons .refl (.cons .refl (.cons .refl (.cons .any (.cons .refl (.cons .any (.cons .any (.cons .refl (.cons .refl .nil))))))))))))))))))) (StF.ofW (StW.weak (f := fun _ => (s_7.1, (s_7.2.1, s_7.2.2))) StW.next fun _ => (.cons .refl (.cons .refl (.cons .refl (.cons .refl (.cons .refl (.cons .refl (.cons .refl (.cons .any (.cons .refl (.cons .refl (.cons .refl (.cons .refl (.cons .refl .nil))))))))))))))))))) fun s_7 => (StR.rt (Rt.val EW.bl))))
end
end My

set_option Elab.async false
set_option linter.all false
set_option maxRecDepth 100000
set_option maxHeartbeats 8000000
namespace My
open PySem PySem.Spec PyProof.Rows L2 Dk
open PySem.W (DatumOrd)
open Evl (Ex)
open Dk.Py (rp)
open Dk.PyD (pic)
section
variable {P : Program} {w : World} {K : PySem.W.Frag} {mg : Str → Option Value} {base : Heap}
def law_r {C : Addr} : W Bool := (W.thenL (W.bind (W.bind (W.pure (2 : Int)) fun n_1 => (W.chk (-1000000 ≤ n_1 ∧ n_1 ≤ 1000000) (W.pure (rangeL n_1)))) fun xs_146 => (W.loop (fun (turn_3 : Int) (s_2 : Unit) => (W.bind (W.bind (W.bind (W.bind (W.bind (W.pure (8 : Int)) fun x_4 => (W.bind (W.pure (12 : Int)) fun y_5 => (W.pure (x_4, y_5)))) fun x_10 => (W.bind (W.bind (W.bind (W.pure (40 : Int)) fun x_6 => (W.bind (W.pure (60 : Int)) fun y_7 => (W.pure (x_6, y_7)))) fun x_8 => (W.bind (W.pure ([] : (List (Int × Int)))) fun r_9 => (W.pure (x_8 :: r_9)))) fun r_11 => (W.pure (x_10 :: r_11)))) fun l_12 => (W.chk (l_12.length ≤ 1000000) (W.pure l_12))) fun x_16 => (W.bind (W.bind (W.bind (W.pure (2 : Int)) fun a_14 => (W.bind (W.pure ()) fun q_15 => (W.pure (a_14, q_15)))) fun q_13 => (My.law_take_m q_13.1)) fun i_17 => (W.get (PyAt x_16 i_17)))) fun p_18 => (W.bind (W.bind (W.bind (W.pure p_18.1) fun a_22 => (W.bind (W.bind (W.pure p_18.2) fun a_20 => (W.bind (W.pure ()) fun q_21 => (W.pure (a_20, q_21)))) fun q_23 => (W.pure (a_22, q_23)))) fun q_19 => (My.law_parts_m q_19.1 q_19.2.1)) fun parts_24 => (W.bind (W.bind (W.bind (W.pure parts_24) fun p_25 => (W.pure p_25.1)) fun l_26 => (W.chk (l_26.length ≤ 1000) (W.pick (fun ys => ys.Perm l_26)))) fun line_27 => (W.bind (W.bind (W.bind (W.pure line_27) fun a_29 => (W.bind (W.pure ()) fun q_30 => (W.pure (a_29, q_30)))) fun q_28 => (My.law_near_line_m q_28.1)) fun other_31 => (W.bind (W.bind (W.bind (W.bind (W.pure parts_24) fun a_33 => (W.bind (W.pure ()) fun q_34 => (W.pure (a_33, q_34)))) fun q_32 => (My.law_roster_m (C := C) q_32.1)) fun x_51 => (W.bind (W.bind (W.bind (W.bind (W.bind (W.bind (W.pure (4 : Int)) fun a_36 => (W.bind (W.pure ()) fun q_37 => (W.pure (a_36, q_37)))) fun q_35 => (My.law_take_m q_35.1)) fun x_43 => (W.bind (W.bind (W.bind (W.bind (W.pure (41 : Int)) fun a_39 => (W.bind (W.pure ()) fun q_40 => (W.pure (a_39, q_40)))) fun q_38 => (My.law_take_m q_38.1)) fun x_41 => (W.bind (W.pure ([] : (List Int))) fun r_42 => (W.pure (x_41 :: r_42)))) fun r_44 => (W.pure (x_43 :: r_44)))) fun l_45 => (W.chk (l_45.length ≤ 1000000) (W.pure l_45))) fun x_49 => (W.bind (W.bind (W.bind (W.pure (2 : Int)) fun a_47 => (W.bind (W.pure ()) fun q_48 => (W.pure (a_47, q_48)))) fun q_46 => (My.law_take_m q_46.1)) fun i_50 => (W.get (PyAt x_49 i_50)))) fun y_52 => (W.pure (x_51, y_52)))) fun p_53 => (W.bind (W.bind (W.bind (W.pure p_53.1) fun a_63 => (W.bind (W.bind (W.bind (W.pure line_27) fun l_55 => (W.pure l_55)) fun a_61 => (W.bind (W.bind (W.bind (W.pure other_31) fun l_56 => (W.pure l_56)) fun a_59 => (W.bind (W.bind (W.pure p_53.2) fun a_57 => (W.bind (W.pure ()) fun q_58 => (W.pure (a_57, q_58)))) fun q_60 => (W.pure (a_59, q_60)))) fun q_62 => (W.pure (a_61, q_62)))) fun q_64 => (W.pure (a_63, q_64)))) fun q_54 => (My.compare_m (C := C) q_54.1 q_54.2.1 q_54.2.2.1 q_54.2.2.2.1)) fun found_65 => (W.bind (W.bind (W.bind (W.pure found_65) fun x_75 => (W.bind (W.bind (W.bind (W.pure parts_24) fun a_73 => (W.bind (W.bind (W.pure line_27) fun a_71 => (W.bind (W.bind (W.pure other_31) fun a_69 => (W.bind (W.bind (W.pure p_53.2) fun a_67 => (W.bind (W.pure ()) fun q_68 => (W.pure (a_67, q_68)))) fun q_70 => (W.pure (a_69, q_70)))) fun q_72 => (W.pure (a_71, q_72)))) fun q_74 => (W.pure (a_73, q_74)))) fun q_66 => (My.law_parting_m q_66.1 q_66.2.1 q_66.2.2.1 q_66.2.2.2.1)) fun y_76 => (W.chk (PyD.ok x_75 ∧ PyD.ok y_76 ∧ PyD.okr x_75 ∧ PyD.size x_75 ≤ 1000000) (W.pure (decide (x_75 = y_76)))))) fun b_77 => (W.pure (!b_77))) fun c_78 => (W.ite c_78 (W.thenF (W.bind (W.pure false) fun r_79 => (W.pure (Fl.rt r_79 : Fl Empty Bool Unit))) (fun x => nomatch x)) (W.bind (W.bind (W.bind (W.bind (W.pure found_65) fun p_80 => ((Sum.elim (fun p : (Tp1 Str) => W.pure p.x1) (fun p : (Tp3 Str (List Str) Str) => W.pure p.x1)) p_80)) fun x_81 => (W.bind (W.pure (Str.ofString "alike")) fun y_82 => (W.pure (decide (x_81 = y_82))))) fun c_88 => (W.ite c_88 (W.pure p_53.2) (W.bind (W.bind (W.bind (W.bind (W.pure found_65) fun o_83 => (W.get (o_83.getRight?))) fun p_84 => (W.pure p_84.x2)) fun l_85 => (W.pure (l_85.length : Int))) fun x_86 => (W.bind (W.pure (1 : Int)) fun y_87 => (W.pure (x_86 - y_87)))))) fun many_89 => (W.bind (W.bind (W.bind (W.pure many_89) fun x_90 => (W.bind (W.pure (0 : Int)) fun y_91 => (W.pure (decide (y_91 ≤ x_90))))) fun b_102 => (W.ite b_102 (W.bind (W.bind (W.bind (W.pure parts_24) fun a_99 => (W.bind (W.bind (W.pure line_27) fun a_97 => (W.bind (W.bind (W.pure other_31) fun a_95 => (W.bind (W.bind (W.pure many_89) fun a_93 => (W.bind (W.pure ()) fun q_94 => (W.pure (a_93, q_94)))) fun q_96 => (W.pure (a_95, q_96)))) fun q_98 => (W.pure (a_97, q_98)))) fun q_100 => (W.pure (a_99, q_100)))) fun q_92 => (My.law_same_m q_92.1 q_92.2.1 q_92.2.2.1 q_92.2.2.2.1)) fun b_101 => (W.pure (!b_101))) (W.pure false))) fun c_103 => (W.ite c_103 (W.thenF (W.bind (W.pure false) fun r_104 => (W.pure (Fl.rt r_104 : Fl Empty Bool Unit))) (fun x => nomatch x)) (W.bind (W.bind (W.bind (W.pure found_65) fun p_105 => ((Sum.elim (fun p : (Tp1 Str) => W.pure p.x1) (fun p : (Tp3 Str (List Str) Str) => W.pure p.x1)) p_105)) fun x_106 => (W.bind (W.pure (Str.ofString "apart")) fun y_107 => (W.pure (decide (x_106 = y_107))))) fun c_108 => (W.ite c_108 (W.bind (W.bind (W.bind (W.bind (W.bind (W.pure parts_24) fun p_109 => (W.pure p_109.2)) fun l_110 => (W.chk ((l_110.map (·.1)).Nodup) (W.pure (Dct.mk l_110)))) fun x_113 => (W.bind (W.bind (W.bind (W.pure found_65) fun o_111 => (W.get (o_111.getRight?))) fun p_112 => (W.pure p_112.x3)) fun i_114 => (W.chk ((x_113.items.map (·.1)).Nodup) (W.get (x_113.items.lookup i_114))))) fun l_120 => (W.chk (l_120.length ≤ 1000000) (W.mapf (fun (worker_115 : Str) => (W.bind (W.pure worker_115) fun x_118 => (W.bind (W.bind (W.bind (W.pure found_65) fun o_116 => (W.get (o_116.getRight?))) fun p_117 => (W.pure p_117.x2)) fun y_119 => (W.pure (!decide (x_118 ∈ y_119)))))) (fun (worker_115 : Str) => (W.pure worker_115)) l_120))) fun crew_121 => (W.bind (W.bind (W.bind (W.bind (W.pure line_27) fun x_124 => (W.bind (W.bind (W.pure other_31) fun x_122 => (W.bind (W.pure ([] : (List (List Str)))) fun r_123 => (W.pure (x_122 :: r_123)))) fun r_125 => (W.pure (x_124 :: r_125)))) fun l_126 => (W.chk (l_126.length ≤ 1000000) (W.pure l_126))) fun l_134 => (W.chk (l_134.length ≤ 1000000) (W.mapf (fun (some_127 : (List Str)) => (W.pure true)) (fun (some_127 : (List Str)) => (W.bind (W.bind (W.pure some_127) fun l_131 => (W.chk (l_131.length ≤ 1000000) (W.mapf (fun (worker_128 : Str) => (W.bind (W.pure worker_128) fun x_129 => (W.bind (W.pure crew_121) fun y_130 => (W.pure (decide (x_129 ∈ y_130)))))) (fun (worker_128 : Str) => (W.pure worker_128)) l_131))) fun x_132 => (W.bind (W.pure (0 : Int)) fun i_133 => (W.get (PyAt x_132 i_133))))) l_134))) fun firsts_135 => (W.bind (W.bind (W.bind (W.pure firsts_135) fun x_136 => (W.bind (W.pure (0 : Int)) fun i_137 => (W.get (PyAt x_136 i_137)))) fun x_140 => (W.bind (W.bind (W.pure firsts_135) fun x_138 => (W.bind (W.pure (1 : Int)) fun i_139 => (W.get (PyAt x_138 i_139)))) fun y_141 => (W.pure (decide (x_140 = y_141))))) fun c_142 => (W.ite c_142 (W.bind (W.pure false) fun r_143 => (W.pure (Fl.rt r_143 : Fl Unit Bool Unit))) (W.bind (W.bind (W.pure ()) fun w_144 => (W.pure ())) fun w_144' => (W.pure (Fl.nx w_144'))))))) (W.bind (W.bind (W.pure ()) fun w_145 => (W.pure ())) fun w_145' => (W.pure (Fl.nx w_145'))))))))))))))))) xs_146 ())) (fun s_2 => (W.pure true)))
def law_m {C : Addr} : W Bool := (W.thenL (W.chk (-1000000 ≤ (2 : Int) ∧ (2 : Int) ≤ 1000000) (W.loop (fun (turn_3 : Int) (s_2 : Unit) => (W.chk ((((8 : Int), (12 : Int)) :: (((40 : Int), (60 : Int)) :: ([] : (List (Int × Int))))).length ≤ 1000000) (W.bind (My.law_take_m (2 : Int)) fun i_17 => (W.bind (W.get (PyAt (((8 : Int), (12 : Int)) :: (((40 : Int), (60 : Int)) :: ([] : (List (Int × Int))))) i_17)) fun p_18 => (W.bind (My.law_parts_m p_18.1 p_18.2) fun parts_24 => (W.chk (parts_24.1.length ≤ 1000) (W.bind (W.pick (fun ys => ys.Perm parts_24.1)) fun line_27 => (W.bind (My.law_near_line_m line_27) fun other_31 => (W.bind (My.law_roster_m (C := C) parts_24) fun x_51 => (W.bind (My.law_take_m (4 : Int)) fun x_43 => (W.bind (My.law_take_m (41 : Int)) fun x_41 => (W.chk ((x_43 :: (x_41 :: ([] : (List Int)))).length ≤ 1000000) (W.bind (My.law_take_m (2 : Int)) fun i_50 => (W.bind (W.get (PyAt (x_43 :: (x_41 :: ([] : (List Int)))) i_50)) fun y_52 => (W.bind (W.pure (x_51, y_52)) fun p_53 => (W.bind (My.compare_m (C := C) p_53.1 line_27 other_31 p_53.2) fun found_65 => (W.bind (My.law_parting_m parts_24 line_27 other_31 p_53.2) fun y_76 => (W.chk (PyD.ok found_65 ∧ PyD.ok y_76 ∧ PyD.okr found_65 ∧ PyD.size found_65 ≤ 1000000) (W.ite (!(decide (found_65 = y_76))) (W.thenF (W.pure (Fl.rt false : Fl Empty Bool Unit)) (fun x => nomatch x)) (W.bind ((Sum.elim (fun p : (Tp1 Str) => W.pure p.x1) (fun p : (Tp3 Str (List Str) Str) => W.pure p.x1)) found_65) fun x_81 => (W.bind (W.ite (decide (x_81 = (Str.ofString "alike"))) (W.pure p_53.2) (W.bind (W.get (found_65.getRight?)) fun p_84 => (W.pure ((p_84.x2.length : Int) - (1 : Int))))) fun many_89 => (W.bind (W.ite (decide ((0 : Int) ≤ many_89)) (W.bind (My.law_same_m parts_24 line_27 other_31 many_89) fun b_101 => (W.pure (!b_101))) (W.pure false)) fun c_103 => (W.ite c_103 (W.thenF (W.pure (Fl.rt false : Fl Empty Bool Unit)) (fun x => nomatch x)) (W.bind ((Sum.elim (fun p : (Tp1 Str) => W.pure p.x1) (fun p : (Tp3 Str (List Str) Str) => W.pure p.x1)) found_65) fun x_106 => (W.ite (decide (x_106 = (Str.ofString "apart"))) (W.chk ((parts_24.2.map (·.1)).Nodup) (W.bind (W.get (found_65.getRight?)) fun p_112 => (W.chk (((Dct.mk parts_24.2).items.map (·.1)).Nodup) (W.bind (W.get ((Dct.mk parts_24.2).items.lookup p_112.x3)) fun l_120 => (W.chk (l_120.length ≤ 1000000) (W.bind (W.mapf (fun (worker_115 : Str) => (W.bind (W.get (found_65.getRight?)) fun p_117 => (W.pure (!decide (worker_115 ∈ p_117.x2))))) (fun (worker_115 : Str) => (W.pure worker_115)) l_120) fun crew_121 => (W.chk ((line_27 :: (other_31 :: ([] : (List (List Str))))).length ≤ 1000000) (W.chk ((line_27 :: (other_31 :: ([] : (List (List Str))))).length ≤ 1000000) (W.bind (W.mapf (fun (some_127 : (List Str)) => (W.pure true)) (fun (some_127 : (List Str)) => (W.chk (some_127.length ≤ 1000000) (W.bind (W.mapf (fun (worker_128 : Str) => (W.pure (decide (worker_128 ∈ crew_121)))) (fun (worker_128 : Str) => (W.pure worker_128)) some_127) fun x_132 => (W.get (PyAt x_132 (0 : Int)))))) (line_27 :: (other_31 :: ([] : (List (List Str)))))) fun firsts_135 => (W.bind (W.get (PyAt firsts_135 (0 : Int))) fun x_140 => (W.bind (W.get (PyAt firsts_135 (1 : Int))) fun y_141 => (W.ite (decide (x_140 = y_141)) (W.pure (Fl.rt false : Fl Unit Bool Unit)) (W.pure (Fl.nx ())))))))))))))) (W.pure (Fl.nx ()))))))))))))))))))))))))))) (rangeL (2 : Int)) ())) (fun s_2 => (W.pure true)))
theorem law_ok (T : Tx K mg) (hm : (law_m (C := T.c_Roster)).run (fun b => b = true) fun _ => False) : FnG P w K mg base CX0 8 T.a_law T.d_law p_law (sp K) := by
  refine okN T.f_law sc_law (fun vs H Q E h => ?_) (fun cdv A outer s H vs Q E gd hr h => ?_)
  · obtain ⟨a, ns, rfl, _⟩ := h
    rfl
  · obtain ⟨a, ns, rfl, hl, hS, k⟩ := h
    have nd := sc_law.nd
    have hu := hu_of hr
    have hu65 := hu65_of' hr
    refine ⟨_, (pss_cons (ps_set (i := 1) nd rfl (Or.inl rfl) (pe_callG (ok_law_bag T) gd (hr.mono (by decide)) (by rfl) T.g_law_bag T.k_law_bag T.b_law_bag pass0 (pa_cons (pv 0) pa_nil)))
      (pss_cons (ps_for PassesOwn.never rfl (pi_range1 (by rfl) T.z_range (pa_cons pe_int pa_nil)) (pg_name (i := 2) nd rfl (Or.inl rfl))
      (pss_cons (ps_asg (pe_ix (ixQ (K := K) rfl) (pe_lst (pa_cons (pe_tup (pa_cons pe_int (pa_cons pe_int pa_nil))) (pa_cons (pe_tup (pa_cons pe_int (pa_cons pe_int pa_nil))) pa_nil))) (pe_callG (okw_law_take T) gd (hr.mono (by decide)) (by rfl) T.g_law_take T.k_law_take T.b_law_take pass0 (pa_cons (pv 1) (pa_cons pe_int pa_nil))) (fun _ _ => rfl)) (pg_tupQ (K := K) rfl (pg_tup (by rfl) (pgs_cons (pg_name (i := 3) nd rfl (Or.inl rfl)) (pgs_cons (pg_name (i := 4) nd rfl (Or.inl rfl)) pgs_nil)))))
      (pss_cons (ps_set (i := 5) nd rfl (Or.inl rfl) (pe_callG (okw_law_parts T) gd (hr.mono (by decide)) (by rfl) T.g_law_parts T.k_law_parts T.b_law_parts pass0 (pa_cons (pv 1) (pa_cons (pv 3) (pa_cons (pv 4) pa_nil)))))
      (pss_cons (ps_set (i := 6) nd rfl (Or.inl rfl) (pe_callG (ok_law_mixed T) gd (hr.mono (by decide)) (by rfl) T.g_law_mixed T.k_law_mixed T.b_law_mixed pass0 (pa_cons (pv 1) (pa_cons (pe_ix (ixQ (K := K) rfl) (pv 5) pe_int (fun _ _ => rfl)) pa_nil))))
      (pss_cons (ps_set (i := 7) nd rfl (Or.inl rfl) (pe_callG (okw_law_near_line T) gd (hr.mono (by decide)) (by rfl) T.g_law_near_line T.k_law_near_line T.b_law_near_line pass0 (pa_cons (pv 1) (pa_cons (pv 6) pa_nil))))
      (pss_cons (ps_par (i := 8) (j := 9) (by rfl) nd rfl rfl (by decide) rfl rfl (pa_cons (pe_callG (okw_law_roster T) gd (hr.mono (by decide)) (by rfl) T.g_law_roster T.k_law_roster T.b_law_roster pass0 (pa_cons (pv 5) pa_nil)) (pa_cons (pe_ix (ixQ (K := K) rfl) (pe_lst (pa_cons (pe_callG (okw_law_take T) gd (hr.mono (by decide)) (by rfl) T.g_law_take T.k_law_take T.b_law_take pass0 (pa_cons (pv 1) (pa_cons pe_int pa_nil))) (pa_cons (pe_callG (okw_law_take T) gd (hr.mono (by decide)) (by rfl) T.g_law_take T.k_law_take T.b_law_take pass0 (pa_cons (pv 1) (pa_cons pe_int pa_nil))) pa_nil))) (pe_callG (okw_law_take T) gd (hr.mono (by decide)) (by rfl) T.g_law_take T.k_law_take T.b_law_take pass0 (pa_cons (pv 1) (pa_cons pe_int pa_nil))) (fun _ _ => rfl)) pa_nil)) (by rfl))
      (pss_cons (ps_set (i := 10) nd rfl (Or.inr rfl) (pe_callG (okw_compare T) gd (hr.mono (by decide)) (by rfl) T.g_compare T.k_compare T.b_compare pass0 (pa_cons (pv 8) (pa_cons (pe_callTy (listQ (K := K) rfl) (by rfl) T.z_list (by decide +kernel) (pa_cons (pv 6) pa_nil)) (pa_cons (pe_callTy (listQ (K := K) rfl) (by rfl) T.z_list (by decide +kernel) (pa_cons (pv 7) pa_nil)) (pa_cons (pv 9) pa_nil))))))
      (pss_cons (ps_if (pt_not (pt_val (pe_callG (ok_law_alike T) gd (hr.mono (by decide)) (by rfl) T.g_law_alike T.k_law_alike T.b_law_alike pass0 (pa_cons (pv 10) (pa_cons (pe_callG (okw_law_parting T) gd (hr.mono (by decide)) (by rfl) T.g_law_parting T.k_law_parting T.b_law_parting pass0 (pa_cons (pv 5) (pa_cons (pv 6) (pa_cons (pv 7) (pa_cons (pv 9) pa_nil))))) pa_nil))))) (pss_one (ps_ret pe_bl))
      pss_nil)
      (pss_cons (ps_set (i := 11) nd rfl (Or.inl rfl) (pe_ifExp (pt_cmpR (eqQ (K := K) rfl hr.units) (pe_ix (ixQ (K := K) rfl) (pv 10) pe_int (fun _ _ => rfl)) pe_str (nomark _)) (pv 9) (pe_op op_sub (pe_callB (lenQ (K := K) rfl) (by rfl) T.z_len (by decide +kernel) (pa_cons (pe_ix (ixQ (K := K) rfl) (pv 10) pe_int (fun _ _ => rfl)) pa_nil)) pe_int)))
      (pss_cons (ps_if (PW.pt (pw_and (pt_cmpR op_ge (pv 11) pe_int (nomark _)) (pw_and1 (pt_not (pt_val (pe_callG (okw_law_same T) gd (hr.mono (by decide)) (by rfl) T.g_law_same T.k_law_same T.b_law_same pass0 (pa_cons (pv 1) (pa_cons (pv 5) (pa_cons (pv 6) (pa_cons (pv 7) (pa_cons (pv 11) pa_nil))))))))))) (pss_one (ps_ret pe_bl))
      pss_nil)
      (pss_one (ps_if (pt_cmpR (eqQ (K := K) rfl hr.units) (pe_ix (ixQ (K := K) rfl) (pv 10) pe_int (fun _ _ => rfl)) pe_str (nomark _)) (pss_cons (ps_set (i := 12) nd rfl (Or.inr rfl) (pe_lc (own := [("worker", 14)]) (by rfl) nd (pi_list (pe_dgetQ (by rfl) hu (pe_callTy (dctQ (K := K) rfl rfl) (by rfl) T.z_dict (by decide +kernel) (pa_cons (pe_ix (ixQ (K := K) rfl) (pv 5) pe_int (fun _ _ => rfl)) pa_nil)) (pe_ix (ixQ (K := K) rfl) (pv 10) pe_int (fun _ _ => rfl)) (fun _ _ => rfl))) (blkOk_by (own := [("worker", 14)]) (N := n_law) (sc := defScope s_law) (by decide +kernel)) (fun _ _ _ _ _ => (pg_name (i := 14) nd rfl (Or.inl rfl))) (fun _ _ _ _ _ => (pts_one (pt_cmpR (notInQ (K := K) rfl) (pv 14) (pe_ix (ixQ (K := K) rfl) (pv 10) pe_int (fun _ _ => rfl)) (by rfl)))) (fun _ _ _ _ _ => (pv 14))))
      (pss_cons (ps_setLc (i := 13) (own := [("some", 15)]) (by rfl) nd rfl rfl (sw_true rfl rfl rfl (by decide +kernel)) (pi_list (pe_lst (pa_cons (pv 6) (pa_cons (pv 7) pa_nil)))) (blkOk_by (own := [("some", 15)]) (N := n_law) (sc := defScope s_law) (by decide +kernel)) (fun _ _ _ _ _ => (pg_name (i := 15) nd rfl (Or.inl rfl))) (fun _ _ _ _ _ => pts_nil) (fun _ _ _ _ _ => (pe_ix (ixQ (K := K) rfl) (pe_lc (own := [("worker", 14)]) (by rfl) nd (pi_listQ (K := K) rfl (pv 15)) (blkOk_by (own := [("worker", 14)]) (N := n_law) (sc := ⟨.function, [(".0", .local), ("some", .local), ("crew", .cell)], false, false, []⟩) (by decide +kernel)) (fun _ _ _ _ _ => (pg_name (i := 14) nd rfl (Or.inl rfl))) (fun _ _ _ _ _ => (pts_one (pt_cmpR (inQ (K := K) rfl) (pv 14) (pv 12) (by rfl)))) (fun _ _ _ _ _ => (pv 14))) pe_int (fun _ _ => rfl))))
      (pss_one (ps_if (pt_cmpR (eqQ (K := K) rfl hr.units) (pe_ix (ixQ (K := K) rfl) (pv 13) pe_int (fun _ _ => rfl)) (pe_ix (ixQ (K := K) rfl) (pv 13) pe_int (fun _ _ => rfl)) (nomark _)) (pss_one (ps_ret pe_bl))
      pss_nil))))
      pss_nil))))))))))))
      (pss_one (ps_ret pe_bl)))), ?_⟩
    refine law_start (n := 14) (m := law_m (C := T.c_Roster)) hl hS k hm ?_ rfl
    show StR XP0 rmV [Sl.any, Sl.bag, Sl.any, Sl.any, Sl.any, Sl.any, Sl.any, Sl.any, Sl.any, Sl.any, Sl.any, Sl.any, Sl.any, Sl.any, Sl.any, Sl.any] _ (law_r (C := T.c_Roster))
    unfold law_r
    exact (StR.loop (StL.forF (S := Unit) (R := Bool) (Dh := (fun s_2 => [Sl.any, Sl.bag, Sl.any, Sl.any, Sl.any, Sl.any, Sl.any, Sl.any, Sl.any, Sl.any, Sl.any, Sl.any, Sl.any, Sl.any, Sl.any, Sl.any])) (EWI.range1 EW.int) (.cons .refl (.cons .refl (.cons .refl (.cons .refl (.cons .refl (.cons .refl (.cons .refl (.cons .refl (.cons .refl (.cons .refl (.cons .refl (.cons .refl (.cons .refl (.cons .refl (.cons .refl (.cons .refl .nil)))))))))))))))) (fun s_2 => (.name rfl rfl)) (fun s_2 turn_3 => (StF.seq (E1 := fun (p_18 : (Int × Int)) => [Sl.any, Sl.bag, stv (α := Int) turn_3, stv (α := Int) p_18.1, stv (α := Int) p_18.2, Sl.any, Sl.any, Sl.any, Sl.any, Sl.any, Sl.any, Sl.any, Sl.any, Sl.any, Sl.any, Sl.any]) (StW.tgt (EW.op (EW.still (EWN.lst (EWL.cons (EW.pair EW.int EW.int) (EWL.cons (EW.pair EW.int EW.int) (EWL.nil (α := (Int × Int))))))) (EW.call (EWA.bag rfl (EWA.cons EW.int EWA.nil))) w_ixL) (.pair (.name rfl rfl) fun _ => (.name rfl rfl))) fun p_18 => (StF.seq (StW.set (EW.call (EWA.bag rfl (EWA.cons (EW.var rfl) (EWA.cons (EW.var rfl) EWA.nil)))) rfl) fun parts_24 => (StF.seq (StW.set (EW.still (EWN.mixed rfl (EW.ix0 (EW.var rfl)))) rfl) fun line_27 => (StF.seq (StW.set (EW.still (EWN.call (EWA.bag rfl (EWA.cons (EW.var rfl) EWA.nil)))) rfl) fun other_31 => (StF.seq (E1 := fun (p_53 : ((Ros T.c_Roster) × Int)) => [Sl.any, Sl.bag, stv (α := Int) turn_3, stv (α := Int) p_18.1, stv (α := Int) p_18.2, stv (α := ((List Str) × (List (Str × (List Str))))) parts_24, stv (α := (List Str)) line_27, stv (α := (List Str)) other_31, stv (α := (Ros T.c_Roster)) p_53.1, stv (α := Int) p_53.2, Sl.any, Sl.any, Sl.any, Sl.any, Sl.any, Sl.any]) (StW.par (α := (Ros T.c_Roster)) (β := Int) (EW.call (EWA.cons (EW.var rfl) EWA.nil)) (EW.op (EW.still (EWN.lst (EWL.cons (EW.call (EWA.bag rfl (EWA.cons EW.int EWA.nil))) (EWL.cons (EW.call (EWA.bag rfl (EWA.cons EW.int EWA.nil))) (EWL.nil (α := Int)))))) (EW.call (EWA.bag rfl (EWA.cons EW.int EWA.nil))) w_ixL) rfl fun _ => rfl) fun p_53 => (StF.seq (StW.set (EW.call (EWA.cons (EW.var rfl) (EWA.cons (EW.still (EWN.list (EW.var rfl))) (EWA.cons (EW.still (EWN.list (EW.var rfl))) (EWA.cons (EW.var rfl) EWA.nil))))) rfl) fun found_65 => (StF.cut (EWT.not (EWT.valB (EW.alike (by decide) (EW.var rfl) (EW.call (EWA.cons (EW.var rfl) (EWA.cons (EW.var rfl) (EWA.cons (EW.var rfl) (EWA.cons (EW.var rfl) EWA.nil)))))))) (StF.rt (Rt.val EW.bl)) (StF.seq (StW.set (EW.ifE (EWT.val (EW.op (EW.ixC (α := ((Tp1 Str) ⊕ (Tp3 Str (List Str) Str))) (β := Str) (EW.var rfl) (w_ixSum w_ix11 w_ix31)) EW.str w_eqS)) (EW.var rfl) (EW.op (EW.lenL (EW.ixC (α := (Tp3 Str (List Str) Str)) (β := (List Str)) (EW.right (α := (Tp1 Str)) (β := (Tp3 Str (List Str) Str)) (EW.var rfl)) w_ix32)) EW.int w_subI)) rfl) fun many_89 => (StF.cut (EWT.and (EWT.val (EW.op (EW.var rfl) EW.int w_ge)) (EWT.not (EWT.valB (EW.call (EWA.bag rfl (EWA.cons (EW.var rfl) (EWA.cons (EW.var rfl) (EWA.cons (EW.var rfl) (EWA.cons (EW.var rfl) EWA.nil))))))))) (StF.rt (Rt.val EW.bl)) (StF.ite (EWT.val (EW.op (EW.ixC (α := ((Tp1 Str) ⊕ (Tp3 Str (List Str) Str))) (β := Str) (EW.var rfl) (w_ixSum w_ix11 w_ix31)) EW.str w_eqS)) (StF.seq (StW.set (EW.still (EWN.lcF (EWI.list (EW.dget (EW.dict (EW.ix1 (EW.var rfl))) (EW.ixC (α := (Tp3 Str (List Str) Str)) (β := Str) (EW.right (α := (Tp1 Str)) (β := (Tp3 Str (List Str) Str)) (EW.var rfl)) w_ix33))) (AllFree.mk rfl rfl AllFree.no) (.name rfl rfl) (fun worker_115 => (EWT.val (EW.op (EW.var rfl) (EW.ixC (α := (Tp3 Str (List Str) Str)) (β := (List Str)) (EW.right (α := (Tp1 Str)) (β := (Tp3 Str (List Str) Str)) (EW.var rfl)) w_ix32) w_notInL))) (fun worker_115 => (EW.var rfl)))) rfl) fun crew_121 => (StF.seq (StW.set (EW.still (EWN.lcF (EWI.list (EW.still (EWN.lst (EWL.cons (EW.var rfl) (EWL.cons (EW.var rfl) (EWL.nil (α := (List Str)))))))) (AllFree.mk rfl rfl AllFree.no) (.name rfl rfl) (fun some_127 => EWT.yes) (fun some_127 => (EW.op (EW.still (EWN.lcF (EWI.list (EW.var rfl)) (AllFree.mk rfl rfl AllFree.no) (.name rfl rfl) (fun worker_128 => (EWT.val (EW.op (EW.var rfl) (EW.var rfl) w_inL))) (fun worker_128 => (EW.var rfl)))) EW.int w_ixL)))) rfl) fun firsts_135 => (StF.ite (EWT.val (EW.op (EW.op (EW.var rfl) EW.int w_ixL) (EW.op (EW.var rfl) EW.int w_ixL) w_eqS)) (StF.rt (Rt.val EW.bl)) (StF.ofW (StW.weak (f := fun _ => ()) StW.next fun _ => (.cons .refl (.cons .refl (.cons .any (.cons .any (.cons .any (.cons .any (.cons .any (.cons .any (.cons .any (.cons .any (.cons .any (.cons .any (.cons .any (.cons .any (.cons .refl (.cons .refl .nil))))))))))))))))))))) (StF.ofW (StW.weak (f := fun _ => ()) StW.next fun _ => (.cons .refl (.cons .refl (.cons .any (.cons .any (.cons .any (.cons .any (.cons .any (.cons .any (.cons .any (.cons .any (.cons .any (.cons .any (.cons .refl (.cons .refl (.cons .refl (.cons .refl .nil)))))))))))))))))))))))))))))) fun s_2 => (StR.rt (Rt.val EW.bl)))
end
end My

set_option Elab.async false
set_option linter.all false
set_option maxRecDepth 100000
set_option maxHeartbeats 4000000
namespace My
open PySem PySem.Spec PyProof.Rows L2 Dk
open Evl (Ex)
open Dk.Py (rp)
open Dk.PyD (pic)
/-! ### crews looked up -/
def crewOf (ds : List (Str × List Str)) (d : Str) : List Str := (ds.lookup d).getD []
theorem lookup_in {β : Type} : ∀ {ds : List (Str × β)} {d : Str} {c : β}, (ds.map (·.1)).Nodup → (d, c) ∈ ds → ds.lookup d = some c
  | p :: ds, d, c, nd, h => by
    rw [List.map_cons, List.nodup_cons] at nd
    rw [List.lookup_cons]
    rcases List.mem_cons.mp h with h | h
    · rw [← h]; simp
    · have : (d == p.1) = false := beq_eq_false_iff_ne.mpr fun e => nd.1 (by rw [← e]; exact List.mem_map_of_mem (f := (·.1)) h)
      rw [this]
      exact lookup_in nd.2 h
theorem key_in {β : Type} {ds : List (Str × β)} {d : Str} (h : d ∈ ds.map (·.1)) : ∃ c, (d, c) ∈ ds := by
  obtain ⟨p, hp, rfl⟩ := List.mem_map.mp h
  exact ⟨p.2, hp⟩
theorem crewOf_in {ds : List (Str × List Str)} {d : Str} {c : List Str} (nd : (ds.map (·.1)).Nodup) (h : (d, c) ∈ ds) : crewOf ds d = c := by unfold crewOf; rw [lookup_in nd h]; rfl
theorem crewOf_mem {ds : List (Str × List Str)} {d : Str} (nd : (ds.map (·.1)).Nodup) (h : d ∈ ds.map (·.1)) : (d, crewOf ds d) ∈ ds := by
  obtain ⟨c, hc⟩ := key_in h
  rw [crewOf_in nd hc]; exact hc
theorem made_nd {C : Addr} {ws : List Str} {ds : List (Str × List Str)} {r : Ros C} (m : Made ws ds r) (nd : (ds.map (·.1)).Nodup) : (r.crews.map (·.1)).Nodup := by rw [made_keys m.cr]; exact nd
theorem made_crew {C : Addr} {ws : List Str} {ds : List (Str × List Str)} {r : Ros C} (m : Made ws ds r) (nd : (ds.map (·.1)).Nodup) {d : Str} (h : d ∈ ds.map (·.1)) : (crewOf r.crews d).Perm (crewOf ds d) ∧ sortedS (crewOf r.crews d) = true := by
  obtain ⟨p, hp, e, pm, so⟩ := rel2_memL m.cr (crewOf_mem nd h)
  have hp' : (d, p.2) ∈ r.crews := by rw [← show p.1 = d from e]; exact hp
  rw [crewOf_in (made_nd m nd) hp']
  exact ⟨pm, so⟩
theorem roster_crew {C : Addr} {r : Ros C} {d : Str} (nd : (r.crews.map (·.1)).Nodup) (h : d ∈ r.crews.map (·.1)) : Roster_crew_m r d = W.pure (crewOf r.crews d) := by
  unfold Roster_crew_m
  rw [W.chk_true ⟨nd, key_in h⟩]
  exact W.pick_one fun l => ⟨fun hl => (crewOf_in nd hl).symm, fun e => e ▸ crewOf_mem nd h⟩
theorem roster_workers {C : Addr} {r : Ros C} : Roster_workers_m r = W.pure r.ws := by
  unfold Roster_workers_m
  rw [W.chk_true trivial]
  exact W.pick_one fun l => Iff.rfl
theorem filter_same {c c' line : List Str} (h : ∀ x, x ∈ c ↔ x ∈ c') : (line.filter fun x => decide (x ∈ c)) = line.filter fun x => decide (x ∈ c') := by
  congr 1
  funext x
  exact decide_eq_decide.mpr (h x)
theorem PyAt_some {α : Type} {xs : List α} {i : Int} (h0 : 0 ≤ i) (h1 : i < xs.length) : ∃ a, PyAt xs i = some a ∧ a ∈ xs := by
  have e : i = (i.toNat : Int) := (Int.toNat_of_nonneg h0).symm
  have hl : i.toNat < xs.length := by omega
  rw [e, PyAt_nat]
  exact ⟨xs[i.toNat], List.getElem?_eq_getElem hl, List.getElem_mem ..⟩
theorem sizeL_le {α : Type} [DecidableEq α] [PyD α] {b : Nat} : ∀ {xs : List α}, (∀ x ∈ xs, PyD.size x ≤ b) → PyD.size xs ≤ xs.length * (b + 1)
  | [], _ => Nat.zero_le _
  | x :: xs, h => by
    have ih := sizeL_le (xs := xs) fun y hy => h y (List.mem_cons_of_mem _ hy)
    have h1 := h x (List.mem_cons_self ..)
    show sizeL (x :: xs) ≤ _
    have e : sizeL (x :: xs) = PyD.size x + 1 + sizeL xs := by unfold sizeL; rw [List.map_cons, List.sum_cons]
    rw [e, List.length_cons, Nat.succ_mul]
    have ih : sizeL xs ≤ xs.length * (b + 1) := ih
    omega
/-- a take's answer -/
theorem ok_take {m : Int} {f : Int → W α} {P : α → Prop} (h : 1 ≤ m ∧ m ≤ 10 ^ 41) (k : ∀ r, 0 ≤ r → r < m → W.Ok (f r) P) : W.Ok (W.bind (law_take_m m) f) P := ⟨h, fun r hr => k r hr.1 hr.2⟩
theorem ok_sized {f : PT → W α} {P : α → Prop} (k : ∀ p, PartsS p → W.Ok (f p) P) : W.Ok (W.bind law_sized_m f) P := ⟨trivial, fun p hp => k p hp⟩
theorem ok_ros {C : Addr} {p : PT} {f : Ros C → W α} {P : α → Prop} (ok : RosterOk p.1 p.2) (k : ∀ r, Made p.1 p.2 r → W.Ok (f r) P) : W.Ok (W.bind (law_roster_m p) f) P := ⟨ok, fun r hr => k r hr⟩
theorem ok_mapf1 {α β γ : Type} {f : α → W β} {g : α → β} {xs : List α} {k : List β → W γ} {P : γ → Prop} (hf : ∀ x ∈ xs, f x = W.pure (g x)) (h : W.Ok (k (xs.map g)) P) : W.Ok (W.bind (W.mapf (fun _ => W.pure true) f xs) k) P := by
  rw [W.mapf_all hf]
  exact h
theorem ok_desks {C : Addr} {r : Ros C} {f : List Str → W α} {P : α → Prop} (h : r.crews.length < 64) (k : ∀ l, l.Perm (r.crews.map (·.1)) → sortedS l = true → W.Ok (f l) P) : W.Ok (W.bind (Roster_desks_m r) f) P := ⟨h, fun l hl => k l hl.1 hl.2⟩
end My

set_option Elab.async false
set_option linter.all false
set_option maxRecDepth 100000
set_option maxHeartbeats 4000000
namespace My
open PySem PySem.Spec PyProof.Rows L2 Dk
open PySem.W (DatumOrd)
open Evl (Ex)
open Dk.Py (rp)
open Dk.PyD (pic)
/-! ### where two lists part -/
def FD (a b : List Str) : Option Nat → Prop
  | none => a = b
  | some k => ∃ p x y r s, a = p ++ x :: r ∧ b = p ++ y :: s ∧ x ≠ y ∧ p.length = k
theorem fd_get {a b : List Str} {k : Nat} (h : FD a b (some k)) : (∀ j, j < k → a[j]? = b[j]?) ∧ a[k]? ≠ b[k]? ∧ a.take k = b.take k ∧ k < a.length ∧ k < b.length := by
  obtain ⟨p, x, y, r, s, rfl, rfl, ne, rfl⟩ := h
  refine ⟨fun j hj => ?_, ?_, ?_, ?_, ?_⟩
  · rw [List.getElem?_append_left hj, List.getElem?_append_left hj]
  · rw [List.getElem?_append_right (Nat.le_refl _), List.getElem?_append_right (Nat.le_refl _), Nat.sub_self]
    exact fun e => ne (Option.some.inj e)
  · rw [List.take_left', List.take_left'] <;> rfl
  · rw [List.length_append, List.length_cons]; omega
  · rw [List.length_append, List.length_cons]; omega
theorem fd_one {a b : List Str} : ∀ {o o' : Option Nat}, FD a b o → FD a b o' → o = o'
  | none, none, _, _ => rfl
  | none, some k, h, h' => by
    have h : a = b := h
    exact absurd (by rw [h]) (fd_get h').2.1
  | some k, none, h, h' => by
    have h' : a = b := h'
    exact absurd (by rw [h']) (fd_get h).2.1
  | some k, some j, h, h' => by
    obtain ⟨h1, h2, _⟩ := fd_get h
    obtain ⟨g1, g2, _⟩ := fd_get h'
    congr 1
    rcases Nat.lt_trichotomy k j with l | l | l
    · exact absurd (g1 k l) h2
    · exact l
    · exact absurd (h1 j l) g2
theorem fd_of {a b : List Str} {k : Nat} (h1 : ∀ j, j < k → a[j]? = b[j]?) (h2 : a[k]? ≠ b[k]?) (l1 : k < a.length) (l2 : k < b.length) : FD a b (some k) := by
  refine ⟨a.take k, a[k], b[k], a.drop (k + 1), b.drop (k + 1), ?_, ?_, fun e => h2 ?_, by rw [List.length_take]; omega⟩
  · rw [List.getElem_cons_drop, List.take_append_drop]
  · have : a.take k = b.take k := List.ext_getElem? fun j => by
      rw [List.getElem?_take, List.getElem?_take]
      split
      · rename_i hj; exact h1 j hj
      · rfl
    rw [this, List.getElem_cons_drop, List.take_append_drop]
  · rw [List.getElem?_eq_getElem l1, List.getElem?_eq_getElem l2, e]
theorem first_diff_ok {a b : List Str} (hl : a.length = b.length) : W.Ok (first_difference_m a b) fun o => ∃ k : Option Nat, o = k.map (fun n : Nat => (n : Int)) ∧ FD a b k := by
  unfold first_difference_m
  refine W.ok_thenL (I := fun _ => a = b) (W.ok_loop (fun rest _ => ∃ p a' b', a = p ++ a' ∧ b = p ++ b' ∧ rest = (a'.zip b').mapIdx fun i x => (((i + p.length : Nat) : Int), x)) ⟨[], a, b, rfl, rfl, rfl⟩ (fun x r s _ ⟨p, a', b', ea, eb, er⟩ => ?_) fun s ⟨p, a', b', ea, eb, er⟩ => ?_) fun _ e => ⟨none, rfl, e⟩
  · cases a' with
    | nil => simp at er
    | cons u a' => cases b' with
      | nil => simp at er
      | cons v b' =>
        rw [List.zip_cons_cons, List.mapIdx_cons] at er
        injection er with e1 e2
        subst e1
        refine W.ok_ite.mpr ⟨fun c => ?_, fun c => ?_⟩
        · have ne : u ≠ v := of_decide_eq_false ((Bool.not_eq_true' _).mp c)
          exact ⟨some p.length, by simp, p, u, v, a', b', ea, eb, ne, rfl⟩
        · have e : u = v := of_decide_eq_true ((Bool.not_eq_false' _).mp c)
          subst e
          refine ⟨p ++ [u], a', b', by rw [ea]; simp, by rw [eb]; simp, ?_⟩
          rw [e2]
          congr 1
          funext i x
          rw [List.length_append, List.length_singleton, show i + 1 + p.length = i + (p.length + 1) by omega]
  · have z : a'.zip b' = [] := by
      cases hz : a'.zip b' with
      | nil => rfl
      | cons q t => rw [hz] at er; simp at er
    rw [ea, eb, List.length_append, List.length_append] at hl
    cases a' with
    | nil =>
      cases b' with
      | nil => show a = b; rw [ea, eb]
      | cons v b' => simp at hl
    | cons u a' => cases b' with
      | nil => simp at hl
      | cons v b' => simp at z
def plc (a b : List Str) : List Int := (rangeL (a.length : Int)).filter fun k => !decide (a[k.toNat]? = b[k.toNat]?)
theorem plc_fd {a b : List Str} (hl : a.length = b.length) : ∃ o : Option Nat, FD a b o ∧ (plc a b).head? = o.map fun n : Nat => (n : Int) := by
  have hd : (plc a b).head? = ((List.range a.length).find? fun k => !decide (a[k]? = b[k]?)).map fun n : Nat => (n : Int) := by
    unfold plc rangeL
    rw [List.head?_filter, show ((a.length : Int)).toNat = a.length by omega, List.find?_map]
    rfl
  cases h : (List.range a.length).find? fun k => !decide (a[k]? = b[k]?) with
  | none =>
    refine ⟨none, List.ext_getElem? fun j => ?_, by rw [hd, h]⟩
    have h := List.find?_eq_none.mp h
    by_cases hj : j < a.length
    · have := h j (List.mem_range.mpr hj)
      simpa using this
    · rw [List.getElem?_eq_none (by omega), List.getElem?_eq_none (by omega)]
  | some k =>
    refine ⟨some k, ?_, by rw [hd, h]⟩
    rw [List.find?_range_eq_some] at h
    obtain ⟨h1, h2, h3⟩ := h
    have h2 := List.mem_range.mp h2
    exact fd_of (fun j hj => by have := h3 j hj; simpa using this) (by simpa using h1) h2 (by omega)
def ordd (ds : List (Str × List Str)) (line : List Str) (d : Str) : List Str := line.filter fun x => decide (x ∈ crewOf ds d)
theorem ordd_made {C : Addr} {ws line : List Str} {ds : List (Str × List Str)} {r : Ros C} (m : Made ws ds r) (nd : (ds.map (·.1)).Nodup) {d : Str} (h : d ∈ ds.map (·.1)) : ordd r.crews line d = ordd ds line d := filter_same fun x => (made_crew m nd h).1.mem_iff
theorem law_order_is {p : PT} {line : List Str} {d : Str} (nd : (p.2.map (·.1)).Nodup) (hd : d ∈ p.2.map (·.1)) (hl : line.length ≤ 1000000) : law_order_m p line d = W.pure (ordd p.2 line d) := by
  unfold law_order_m
  rw [W.chk_true nd, W.chk_true nd, lookup_in nd (crewOf_mem nd hd), W.get_some]
  show W.chk _ _ = _
  rw [W.chk_true hl, W.mapf_eq (c := fun x => decide (x ∈ crewOf p.2 d)) (g := fun x => x) (fun _ _ => rfl) (fun _ _ _ => rfl), List.map_id']
  rfl
theorem ordered_is {C : Addr} {r : Ros C} {line : List Str} {d : Str} (nd : (r.crews.map (·.1)).Nodup) (hd : d ∈ r.crews.map (·.1)) (hl : line.length ≤ 1000000) : ordered_m r line d = W.pure (ordd r.crews line d) := by
  unfold ordered_m
  rw [roster_crew nd hd]
  show W.chk _ _ = _
  rw [W.chk_true hl, W.mapf_eq (c := fun x => decide (x ∈ crewOf r.crews d)) (g := fun x => x) (fun _ _ => rfl) (fun _ _ _ => rfl), List.map_id']
  rfl
theorem ordd_len {ds : List (Str × List Str)} {line other : List Str} {d : Str} (h : other.Perm line) : (ordd ds line d).length = (ordd ds other d).length := (h.symm.filter _).length_eq
def Bad (ds : List (Str × List Str)) (line other : List Str) (bound : Int) (d : Str) (k : Nat) : Prop := FD (ordd ds line d) (ordd ds other d) (some k) ∧ (k : Int) ≤ bound
abbrev Told := (Tp1 Str) ⊕ (Tp3 Str (List Str) Str)
def Part (ds : List (Str × List Str)) (line other : List Str) (bound : Int) : Told → Prop
  | .inl t => t = Tp1.mk (Str.ofString "alike") ∧ ∀ d ∈ ds.map (·.1), ∀ k, ¬ Bad ds line other bound d k
  | .inr t => t.x1 = Str.ofString "apart" ∧ t.x3 ∈ ds.map (·.1) ∧ ∃ k : Nat, Bad ds line other bound t.x3 k ∧ t.x2 = (ordd ds line t.x3).take k ∧ ∀ d ∈ ds.map (·.1), ∀ j : Nat, Bad ds line other bound d j → DatumOrd.lt ((j : Int), d) ((k : Int), t.x3) = false
theorem part_one {ds : List (Str × List Str)} {line other : List Str} {bound : Int} : ∀ {t u : Told}, Part ds line other bound t → Part ds line other bound u → t = u
  | .inl t, .inl u, h, g => by rw [h.1, g.1]
  | .inl t, .inr u, h, ⟨_, g2, k, g3, _⟩ => absurd g3 (h.2 _ g2 k)
  | .inr t, .inl u, ⟨_, g2, k, g3, _⟩, h => absurd g3 (h.2 _ g2 k)
  | .inr ⟨a, l, d⟩, .inr ⟨a', l', d'⟩, ⟨h1, h2, k, h3, h4, h5⟩, ⟨g1, g2, j, g3, g4, g5⟩ => by
    have e := Od.anti _ _ (h5 _ g2 _ g3) (g5 _ h2 _ h3)
    have e1 : d' = d := congrArg (·.2) e
    have e2 : (j : Int) = (k : Int) := congrArg (·.1) e
    have e2 : j = k := by omega
    have z1 : a = Str.ofString "apart" := h1
    have z2 : a' = Str.ofString "apart" := g1
    have z3 : l = (ordd ds line d).take k := h4
    have z4 : l' = (ordd ds line d').take j := g4
    rw [z1, z2, z3, z4, e1, e2]
end My

set_option Elab.async false
set_option linter.all false
set_option maxRecDepth 100000
set_option maxHeartbeats 4000000
namespace My
open PySem PySem.Spec PyProof.Rows L2 Dk
open PySem.W (DatumOrd)
open Evl (Ex)
open Dk.Py (rp)
open Dk.PyD (pic)
theorem compare_ok {C : Addr} {p : PT} {r : Ros C} {line other : List Str} {bound : Int} (hm : Made p.1 p.2 r) (ok : RosterOk p.1 p.2) (hp : other.Perm line) (hl : line.length ≤ 1000) : W.Ok (compare_m r line other bound) (Part p.2 line other bound) := by
  have nd := ok.dnd
  have nd' := made_nd hm nd
  have keys := made_keys hm.cr
  have d2 := ok.d2
  have ll := hp.length_eq
  have cl : r.crews.length < 64 := by
    have := congrArg List.length keys
    rw [List.length_map, List.length_map] at this
    omega
  unfold compare_m
  refine ⟨by simp, ?_⟩
  rw [W.pure_bind]
  refine ok_desks cl fun ds pd sd => ?_
  have dl : ds.length ≤ 60 := by rw [pd.length_eq, keys, List.length_map]; exact d2
  have mem : ∀ d, d ∈ ds ↔ d ∈ p.2.map (·.1) := fun d => by rw [pd.mem_iff, keys]
  have ord : ∀ l : List Str, l.length ≤ 1000 → ∀ d ∈ ds, ordered_m r l d = W.pure (ordd p.2 l d) := fun l h d hd => by
    have hd := (mem d).mp hd
    rw [ordered_is nd' (by rw [keys]; exact hd) (by omega), ordd_made hm nd hd]
  refine W.Ok.bind (P := fun s : List (Int × Str) => ∀ q, q ∈ s ↔ ∃ d ∈ ds, ∃ k : Nat, Bad p.2 line other bound d k ∧ q = ((k : Int), d)) ?_ fun s hs => ?_
  · refine W.ok_fold (fun rest s => ∃ pre, pre ++ rest = ds ∧ s.length ≤ pre.length ∧ ∀ q, q ∈ s ↔ ∃ d ∈ pre, ∃ k : Nat, Bad p.2 line other bound d k ∧ q = ((k : Int), d)) ⟨[], rfl, Nat.le_refl _, fun q => ⟨(fun h => nomatch h), (fun ⟨d, h, _⟩ => nomatch h)⟩⟩ ?_ fun s ⟨pre, e, _, h⟩ => by
      rw [List.append_nil] at e
      subst e
      exact h
    rintro x rest s - ⟨pre, e, sl, h⟩
    have hx : x ∈ ds := by rw [← e]; simp
    have pl : pre.length ≤ 60 := by rw [← e, List.length_append] at dl; omega
    rw [ord line hl x hx, W.pure_bind, ord other (by omega) x hx, W.pure_bind]
    refine W.Ok.bind (first_diff_ok (ordd_len hp)) fun o ⟨k, eo, hk⟩ => ?_
    subst eo
    have none_new : (∀ j, ¬ Bad p.2 line other bound x j) → (∃ pre', pre' ++ rest = ds ∧ s.length ≤ pre'.length ∧ ∀ q, q ∈ s ↔ ∃ d ∈ pre', ∃ k : Nat, Bad p.2 line other bound d k ∧ q = ((k : Int), d)) := fun no => ⟨pre ++ [x], by rw [List.append_assoc]; exact e, by rw [List.length_append]; omega, fun q => by
      rw [h q]
      constructor
      · rintro ⟨d, hd, z⟩
        exact ⟨d, List.mem_append_left _ hd, z⟩
      · rintro ⟨d, hd, j, hj, z⟩
        rcases List.mem_append.mp hd with hd | hd
        · exact ⟨d, hd, j, hj, z⟩
        · rw [List.mem_singleton.mp hd] at hj
          exact absurd hj (no j)⟩
    cases k with
    | none =>
      show W.Ok (W.bind (W.ite false _ _) _) _
      exact none_new fun j hj => absurd (fd_one hk hj.1) (by simp)
    | some k =>
      show W.Ok (W.bind (W.bind (W.get (some (k : Int))) _) _) _
      rw [W.get_some, W.pure_bind, W.pure_bind]
      refine W.ok_ite.mpr ⟨fun c => ?_, fun c => ?_⟩
      · have c : (k : Int) ≤ bound := of_decide_eq_true c
        show W.Ok (W.bind (W.get (some (k : Int))) _) _
        rw [W.get_some, W.pure_bind]
        refine ⟨by omega, pre ++ [x], by rw [List.append_assoc]; exact e, by rw [List.length_append, List.length_append]; simp; omega, fun q => ?_⟩
        rw [List.mem_append, h q, List.mem_singleton]
        constructor
        · rintro (⟨d, hd, z⟩ | rfl)
          · exact ⟨d, List.mem_append_left _ hd, z⟩
          · exact ⟨x, by simp, k, ⟨hk, c⟩, rfl⟩
        · rintro ⟨d, hd, j, hj, z⟩
          rcases List.mem_append.mp hd with hd | hd
          · exact .inl ⟨d, hd, j, hj, z⟩
          · have ed := List.mem_singleton.mp hd
            subst ed
            have := Option.some.inj (fd_one hk hj.1)
            subst this
            exact .inr z
      · have c : ¬ (k : Int) ≤ bound := of_decide_eq_false c
        refine none_new fun j hj => c ?_
        have := Option.some.inj (fd_one hk hj.1)
        subst this
        exact hj.2
  · refine W.ok_ite.mpr ⟨fun c => ?_, fun c => ?_⟩
    · have c : (s.length : Int) = 0 := of_decide_eq_true c
      have e : s = [] := List.eq_nil_of_length_eq_zero (by omega)
      subst e
      refine ⟨rfl, fun d hd k hk => ?_⟩
      have := (hs ((k : Int), d)).mpr ⟨d, (mem d).mpr hd, k, hk, rfl⟩
      cases this
    · have c : ¬ (s.length : Int) = 0 := of_decide_eq_false c
      refine ⟨fun e => c (by rw [e]; rfl), fun q ⟨h1, h2⟩ => ?_⟩
      obtain ⟨d, hd, k, hk, rfl⟩ := (hs q).mp h1
      show W.Ok (W.bind (ordered_m r line d) _) _
      rw [ord line hl d hd, W.pure_bind]
      refine ⟨rfl, (mem d).mp hd, k, hk, cutL_to k, fun d' hd' j hj => h2 _ ((hs _).mpr ⟨d', (mem d').mpr hd', j, hj, rfl⟩)⟩
def Sofar (ds : List (Str × List Str)) (line other : List Str) (bound : Int) (pre : List Str) : Option (Tp3 Str (List Str) Str) → Prop
  | none => ∀ d ∈ pre, ∀ k, ¬ Bad ds line other bound d k
  | some t => t.x1 = Str.ofString "apart" ∧ t.x3 ∈ pre ∧ ∃ k : Nat, Bad ds line other bound t.x3 k ∧ t.x2 = (ordd ds line t.x3).take k ∧ ∀ d ∈ pre, ∀ j : Nat, Bad ds line other bound d j → DatumOrd.lt ((j : Int), d) ((k : Int), t.x3) = false
theorem sofar_new {ds : List (Str × List Str)} {line other : List Str} {bound : Int} {pre : List Str} {x : Str} (no : ∀ j, ¬ Bad ds line other bound x j) : ∀ {s : Option (Tp3 Str (List Str) Str)}, Sofar ds line other bound pre s → Sofar ds line other bound (pre ++ [x]) s
  | none, sf => fun d hd j => by
    rcases List.mem_append.mp hd with hd | hd
    · exact sf d hd j
    · rw [List.mem_singleton.mp hd]; exact no j
  | some t, ⟨s1, s2, k, s3, s4, s5⟩ => by
    refine ⟨s1, List.mem_append_left _ s2, k, s3, s4, fun d hd j hj => ?_⟩
    rcases List.mem_append.mp hd with hd | hd
    · exact s5 d hd j hj
    · rw [List.mem_singleton.mp hd] at hj
      exact absurd hj (no j)
theorem parting_ok {p : PT} {line other : List Str} {bound : Int} (ok : RosterOk p.1 p.2) (hp : other.Perm line) (hl : line.length ≤ 1000) : W.Ok (law_parting_m p line other bound) (Part p.2 line other bound) := by
  have nd := ok.dnd
  have d2 := ok.d2
  have ll := hp.length_eq
  unfold law_parting_m
  rw [W.pure_bind]
  refine ⟨by omega, ?_⟩
  refine ok_mapf1 (g := fun p => p.1) (fun _ _ => rfl) ⟨by rw [List.length_map]; omega, fun xs ⟨pm, so⟩ => ?_⟩
  have mem : ∀ d, d ∈ xs ↔ d ∈ p.2.map (·.1) := fun d => pm.mem_iff
  have pw := sortedS_pw so
  refine W.Ok.bind (P := Sofar p.2 line other bound xs) ?_ fun s hs => ?_
  · refine W.ok_fold (fun rest s => ∃ pre, pre ++ rest = xs ∧ Sofar p.2 line other bound pre s) ⟨[], rfl, fun _ h => nomatch h⟩ ?_ fun s ⟨pre, e, h⟩ => by
      rw [List.append_nil] at e
      subst e
      exact h
    rintro x rest s - ⟨pre, e, sf⟩
    have hx : x ∈ xs := by rw [← e]; simp
    have prex : ∀ d ∈ pre, DatumOrd.lt x d = false := fun d hd => by
      rw [← e] at pw
      exact (List.pairwise_append.mp pw).2.2 d hd x (List.mem_cons_self ..)
    rw [law_order_is nd ((mem x).mp hx) (by omega), W.pure_bind, law_order_is nd ((mem x).mp hx) (by omega), W.pure_bind, W.pure_bind]
    have lA : (ordd p.2 line x).length ≤ 1000 := Nat.le_trans (List.length_filter_le _ _) hl
    have eL := ordd_len (ds := p.2) (d := x) hp
    show W.Ok (W.chk (-1000000 ≤ ((ordd p.2 line x).length : Int) ∧ ((ordd p.2 line x).length : Int) ≤ 1000000) _) _
    obtain ⟨o, ho, hd⟩ := plc_fd eL
    have rl : (rangeL ((ordd p.2 line x).length : Int)).length = (ordd p.2 line x).length := by
      unfold rangeL
      rw [List.length_map, List.length_range]
      omega
    refine ⟨by omega, by rw [rl]; omega, ?_⟩
    show W.Ok (W.bind (W.mapf (fun k : Int => W.bind (W.get (PyAt (ordd p.2 line x) k)) fun u => W.bind (W.get (PyAt (ordd p.2 other x) k)) fun v => W.pure (!decide (u = v))) (fun k => W.pure k) (rangeL ((ordd p.2 line x).length : Int))) _) _
    rw [W.mapf_eq (c := fun k : Int => !decide ((ordd p.2 line x)[k.toNat]? = (ordd p.2 other x)[k.toNat]?)) (g := fun k => k) (fun k hk => ?_) (fun _ _ _ => rfl), List.map_id', W.pure_bind]
    · obtain ⟨pl, epl⟩ : ∃ pl, pl = plc (ordd p.2 line x) (ordd p.2 other x) := ⟨_, rfl⟩
      rw [show ((rangeL ((ordd p.2 line x).length : Int)).filter fun k : Int => !decide ((ordd p.2 line x)[k.toNat]? = (ordd p.2 other x)[k.toNat]?)) = pl from epl.symm]
      rw [← epl] at hd
      clear epl
      refine ⟨by simp, ⟨fun _ _ => trivial, fun _ h => nomatch h⟩, ?_⟩
      have none_new : (∀ j, ¬ Bad p.2 line other bound x j) → ∃ pre', pre' ++ rest = xs ∧ Sofar p.2 line other bound pre' s := fun no => ⟨pre ++ [x], by rw [List.append_assoc]; exact e, sofar_new no sf⟩
      cases o with
      | none =>
        have e0 : pl = [] := List.head?_eq_none_iff.mp hd
        subst e0
        rw [decide_eq_true rfl]
        exact none_new fun j hj => absurd (fd_one ho hj.1) (by simp)
      | some k =>
        obtain ⟨tl, rfl⟩ : ∃ tl, pl = (k : Int) :: tl := by
          cases pl with
          | nil => cases hd
          | cons a t => exact ⟨t, by rw [Option.some.inj hd]⟩
        have at0 : PyAt ((k : Int) :: tl) 0 = some (k : Int) := by rw [show (0 : Int) = ((0 : Nat) : Int) from rfl, PyAt_nat]; rfl
        rw [decide_eq_false (by simp), at0]
        simp only [Bool.not_false, W.ite_true, W.get_some', W.pure_bind]
        by_cases c : (k : Int) ≤ bound
        · rw [decide_eq_true c, W.ite_true]
          have bx : Bad p.2 line other bound x k := ⟨ho, c⟩
          have lt1 : k < (ordd p.2 line x).length := (fd_get ho).2.2.2.1
          cases s with
          | none =>
            simp only [Option.isNone_none, W.ite_true, W.pure_bind]
            show W.Ok (W.pure _) _
            refine ⟨pre ++ [x], by rw [List.append_assoc]; exact e, rfl, by simp, k, bx, cutL_to k, fun d hd j hj => ?_⟩
            rcases List.mem_append.mp hd with hd | hd
            · exact absurd hj (sf d hd j)
            · rw [List.mem_singleton.mp hd] at hj ⊢
              have := Option.some.inj (fd_one ho hj.1)
              subst this
              exact Od.irr _
          | some t =>
            obtain ⟨s1, s2, i, s3, s4, s5⟩ := sf
            have tl2 : t.x2.length = i := by
              rw [s4, List.length_take]
              have := (fd_get s3.1).2.2.2.1
              omega
            simp only [Option.isNone_some, W.ite_false, W.get_some', W.pure_bind]
            rw [tl2]
            refine W.ok_ite.mpr ⟨fun c2 => ?_, fun c2 => ?_⟩
            · have c2 : (k : Int) < (i : Int) := of_decide_eq_true c2
              refine ⟨pre ++ [x], by rw [List.append_assoc]; exact e, rfl, by simp, k, bx, cutL_to k, fun d hd j hj => ?_⟩
              rcases List.mem_append.mp hd with hd | hd
              · have h := (lt_pair _ _).mp (s5 d hd j hj)
                have h1 : ¬ (j : Int) < (i : Int) := of_decide_eq_false h.1
                refine (lt_pair _ _).mpr ⟨decide_eq_false ?_, fun e => ?_⟩
                · show ¬ (j : Int) < (k : Int)
                  omega
                · have e : (j : Int) = (k : Int) := e
                  omega
              · rw [List.mem_singleton.mp hd] at hj ⊢
                have := Option.some.inj (fd_one ho hj.1)
                subst this
                exact Od.irr _
            · have c2 : ¬ (k : Int) < (i : Int) := of_decide_eq_false c2
              refine ⟨pre ++ [x], by rw [List.append_assoc]; exact e, s1, List.mem_append_left _ s2, i, s3, s4, fun d hd j hj => ?_⟩
              rcases List.mem_append.mp hd with hd | hd
              · exact s5 d hd j hj
              · rw [List.mem_singleton.mp hd] at hj ⊢
                have := Option.some.inj (fd_one ho hj.1)
                subst this
                exact (lt_pair _ _).mpr ⟨decide_eq_false c2, fun _ => prex _ s2⟩
        · rw [decide_eq_false c, W.ite_false, W.pure_bind, W.ite_false]
          refine none_new fun j hj => c ?_
          have := Option.some.inj (fd_one ho hj.1)
          subst this
          exact hj.2
    · have hk := W.rangeL_mem hk
      obtain ⟨n, rfl⟩ : ∃ n : Nat, k = (n : Int) := ⟨k.toNat, by omega⟩
      have h1 : n < (ordd p.2 line x).length := by omega
      have h2 : n < (ordd p.2 other x).length := by omega
      rw [PyAt_nat, PyAt_nat, Int.toNat_natCast, List.getElem?_eq_getElem h1, List.getElem?_eq_getElem h2, W.get_some, W.pure_bind, W.get_some, W.pure_bind]
      congr 2
      exact decide_eq_decide.mpr ⟨fun h => by rw [h], fun h => Option.some.inj h⟩
  · cases s with
    | none => exact ⟨rfl, fun d hd => hs d ((mem d).mpr hd)⟩
    | some t =>
      obtain ⟨s1, s2, k, s3, s4, s5⟩ := hs
      exact ⟨s1, (mem _).mp s2, k, s3, s4, fun d hd => s5 d ((mem d).mpr hd)⟩
end My

set_option Elab.async false
set_option linter.all false
set_option maxRecDepth 100000
set_option maxHeartbeats 4000000
namespace My
open PySem PySem.Spec PyProof.Rows L2 Dk
open Evl (Ex)
open Dk.Py (rp)
open Dk.PyD (pic)
/-! ### two lines that serve alike for so many removals -/
def wo (w : Str) (l : List Str) : List Str := l.filter fun x => !decide (x = w)
theorem wo_self {w : Str} {l : List Str} (h : w ∉ l) : wo w l = l := List.filter_eq_self.mpr fun x hx => by
  have : x ≠ w := fun e => h (e ▸ hx)
  simp [this]
theorem wo_len {w : Str} : ∀ {l : List Str}, l.Nodup → l.length ≤ (wo w l).length + 1
  | [], _ => Nat.zero_le _
  | x :: l, h => by
    obtain ⟨h1, h2⟩ := List.nodup_cons.mp h
    by_cases e : x = w
    · subst e
      have : wo x (x :: l) = wo x l := by unfold wo; rw [List.filter_cons]; simp
      rw [this, wo_self h1]
      exact Nat.le_refl _
    · have : wo w (x :: l) = x :: wo w l := by unfold wo; rw [List.filter_cons]; simp [e]
      rw [this, List.length_cons, List.length_cons]
      have := wo_len (w := w) h2
      omega
theorem wo_take {A B : List Str} {w : Str} {m : Nat} (nA : A.Nodup) (h : A.take (m + 1) = B.take (m + 1)) : (wo w A).take m = (wo w B).take m := by
  by_cases same : A = B
  · rw [same]
  · have lens : m + 1 ≤ A.length ∧ m + 1 ≤ B.length := by
      have hl := congrArg List.length h
      rw [List.length_take, List.length_take] at hl
      refine Classical.byContradiction fun n => same ?_
      have : A.length ≤ m + 1 ∧ B.length ≤ m + 1 := by omega
      rwa [List.take_of_length_le this.1, List.take_of_length_le this.2] at h
    have split : ∀ L : List Str, wo w L = wo w (L.take (m + 1)) ++ wo w (L.drop (m + 1)) := fun L => by
      unfold wo
      rw [← List.filter_append, List.take_append_drop]
    have nP : (A.take (m + 1)).Nodup := nA.sublist (List.take_sublist _ _)
    have lP : m ≤ (wo w (A.take (m + 1))).length := by
      have := wo_len (w := w) nP
      rw [List.length_take] at this
      omega
    rw [split A, split B, ← h, List.take_append_of_le_length lP, List.take_append_of_le_length lP]
def cw (c : List Str) (l : List Str) : List Str := l.filter fun x => decide (x ∈ c)
theorem wo_cw (w : Str) (c l : List Str) : cw c (wo w l) = wo w (cw c l) := by
  unfold cw wo
  rw [List.filter_filter, List.filter_filter]
  congr 1
  funext x
  exact Bool.and_comm ..
structure Ln (l : List Str) : Prop where
  nd : l.Nodup
  nm : ∀ x ∈ l, Nm x
  len : l.length ≤ 40
theorem Ln.wo {l : List Str} (h : Ln l) (w : Str) : Ln (wo w l) := ⟨h.nd.sublist (List.filter_sublist ..), fun x hx => h.nm x ((List.filter_sublist ..).subset hx), Nat.le_trans (List.length_filter_le _ _) h.len⟩
theorem Ln.front {l : List Str} (h : Ln l) {x : Str} (hx : x ∈ l) : Ln (x :: My.wo x l) := by
  have n1 : (x :: My.wo x l).Nodup := List.nodup_cons.mpr ⟨fun hm => by
    have := (List.mem_filter.mp hm).2
    simp at this, h.nd.sublist (List.filter_sublist ..)⟩
  have sub : ∀ y ∈ x :: My.wo x l, y ∈ l := fun y hy => by
    rcases List.mem_cons.mp hy with rfl | hy
    · exact hx
    · exact (List.filter_sublist ..).subset hy
  exact ⟨n1, fun y hy => h.nm y (sub y hy), Nat.le_trans (n1.length_le_of_subset sub) h.len⟩
def Agr (ds : List (Str × List Str)) (one two : List Str) (m : Nat) : Prop := ∀ q ∈ ds, (cw q.2 one).take (m + 1) = (cw q.2 two).take (m + 1)
theorem Agr.rm {ds : List (Str × List Str)} {one two : List Str} {m : Nat} (h : Agr ds one two (m + 1)) (n1 : one.Nodup) (w : Str) : Agr ds (wo w one) (wo w two) m := fun q hq => by
  rw [wo_cw, wo_cw]
  exact wo_take (n1.sublist (List.filter_sublist ..)) (h q hq)
theorem Agr.call {ds : List (Str × List Str)} {one two : List Str} {m : Nat} (h : Agr ds one two m) (n1 : one.Nodup) (x : Str) : Agr ds (x :: wo x one) (x :: wo x two) m := fun q hq => by
  by_cases hx : x ∈ q.2
  · have e : ∀ l : List Str, cw q.2 (x :: wo x l) = x :: wo x (cw q.2 l) := fun l => by
      rw [← wo_cw]
      unfold cw
      rw [List.filter_cons, decide_eq_true hx, if_pos rfl]
    rw [e, e, List.take_succ_cons, List.take_succ_cons]
    congr 1
    exact wo_take (n1.sublist (List.filter_sublist ..)) (h q hq)
  · have e : ∀ l : List Str, cw q.2 (x :: wo x l) = cw q.2 l := fun l => by
      have : cw q.2 (x :: wo x l) = cw q.2 (wo x l) := by
        unfold cw
        rw [List.filter_cons, decide_eq_false hx]
        rfl
      rw [this, wo_cw, wo_self]
      intro hm
      exact hx (of_decide_eq_true (List.mem_filter.mp hm).2)
    rw [e, e]
    exact h q hq
theorem ln_ok {l : List Str} (h : Ln l) : ∀ x ∈ l, okS x := fun x hx => nm_ok (h.nm x hx)
theorem parts_okd {p : PT} (ok : RosterOk p.1 p.2) : PyD.ok p.2 := fun q hq => ⟨nm_ok (ok.dnm q hq), fun x hx => nm_ok (ok.wnm x ((ok.dcr q hq).2.2 x hx))⟩
theorem same_ok {p : PT} (ok : RosterOk p.1 p.2) {line other : List Str} {many : Int} (h1 : Ln line) (h2 : Ln other) (m0 : 0 ≤ many) (ag : Agr p.2 line other many.toNat) : W.Ok (law_same_m p line other many) fun b => b = true := by
  have d2 := ok.d2
  have dok := parts_okd ok
  unfold law_same_m
  rw [W.pure_bind]
  refine W.ok_thenL (I := fun _ => True) ⟨by decide, W.ok_loopM (fun s : List Str × List Str × Int => Ln s.1 ∧ Ln s.2.1 ∧ 0 ≤ s.2.2 ∧ Agr p.2 s.1 s.2.1 s.2.2.toNat) ⟨h1, h2, m0, ag⟩ (fun k _ s hs => ?_) fun _ _ => trivial⟩ fun _ _ => rfl
  obtain ⟨one, two, m⟩ := s
  obtain ⟨l1, l2, m0, ag⟩ := hs
  have l1 : Ln one := l1
  have l2 : Ln two := l2
  have m0 : 0 ≤ m := m0
  have ag : Agr p.2 one two m.toNat := ag
  have b1 := l1.len
  have b2 := l2.len
  refine W.Ok.bind (P := fun c => c = true → 0 < m ∧ one ≠ []) (W.ok_ite.mpr ⟨fun c => ⟨by simp, ⟨ln_ok l1, fun _ h => nomatch h⟩, W.ok_ite.mpr ⟨fun c2 => ok_take (by decide) fun r _ _ _ => ⟨of_decide_eq_true c, ?_⟩, fun _ h => (by cases h)⟩⟩, fun _ h => (by cases h)⟩) fun c hc => W.ok_ite.mpr ⟨fun e => ?_, fun _ => ⟨by simp, ⟨dok, fun _ h => nomatch h⟩, W.ok_ite.mpr ⟨fun e => ?_, fun _ => ⟨l1, l2, m0, ag⟩⟩⟩⟩
  · exact of_decide_eq_false ((Bool.not_eq_true' _).mp c2)
  · obtain ⟨mp, ne⟩ := hc e
    have pos := List.length_pos_iff.mpr ne
    refine ok_take (by show 1 ≤ (one.length : Int) ∧ (one.length : Int) ≤ _; omega) fun i i0 i1 => ?_
    obtain ⟨w, ew, hw⟩ := PyAt_some (xs := one) i0 i1
    refine ⟨w, ew, by show one.length ≤ _; omega, ?_⟩
    show W.Ok (W.bind (W.mapf _ _ one) _) _
    rw [W.mapf_eq (c := fun x => !decide (x = w)) (g := fun x => x) (fun _ _ => rfl) (fun _ _ _ => rfl), List.map_id', W.pure_bind]
    refine ⟨by show two.length ≤ _; omega, ?_⟩
    show W.Ok (W.bind (W.mapf _ _ two) _) _
    rw [W.mapf_eq (c := fun x => !decide (x = w)) (g := fun x => x) (fun _ _ => rfl) (fun _ _ _ => rfl), List.map_id', W.pure_bind, W.pure_bind]
    refine ⟨l1.wo w, l2.wo w, by show 0 ≤ m - 1; omega, ?_⟩
    show Agr p.2 (wo w one) (wo w two) (m - 1).toNat
    refine Agr.rm ?_ l1.nd w
    rw [show (m - 1).toNat + 1 = m.toNat by omega]
    exact ag
  · have e := of_decide_eq_false ((Bool.not_eq_true' _).mp e)
    have pos := List.length_pos_iff.mpr e
    refine ok_take (by omega) fun i i0 i1 => ?_
    obtain ⟨q, eq, hq⟩ := PyAt_some (xs := p.2) i0 i1
    refine ⟨q, eq, by simp, by simp, ?_⟩
    show W.Ok (W.bind (W.mapf _ (fun l : List Str => W.chk (l.length ≤ 1000000) (W.bind (W.mapf (fun x => W.pure (decide (x ∈ q.2))) (fun x => W.pure x) l) fun z => W.pure (cutL z (none : Option Int) (some (1 : Int))))) [one, two]) _) _
    rw [W.mapf_all (g := fun l : List Str => (cw q.2 l).take 1) fun l hl => ?_]
    · rw [W.pure_bind]
      have at0 : PyAt ([one, two].map fun l => (cw q.2 l).take 1) 0 = some ((cw q.2 one).take 1) := rfl
      have at1 : PyAt ([one, two].map fun l => (cw q.2 l).take 1) 1 = some ((cw q.2 two).take 1) := rfl
      rw [at0, at1]
      simp only [W.get_some', W.pure_bind]
      have heads : (cw q.2 one).take 1 = (cw q.2 two).take 1 := by
        have := congrArg (List.take 1) (ag q hq)
        rwa [List.take_take, List.take_take, Nat.min_eq_left (by omega)] at this
      have subs : ∀ x ∈ (cw q.2 one).take 1, x ∈ one := fun x hx => (List.filter_sublist ..).subset ((List.take_sublist _ _).subset hx)
      have subs2 : ∀ x ∈ (cw q.2 two).take 1, x ∈ two := fun x hx => (List.filter_sublist ..).subset ((List.take_sublist _ _).subset hx)
      have sl : ((cw q.2 one).take 1).length ≤ 1 := by rw [List.length_take]; omega
      rw [← heads] at subs2 ⊢
      generalize (cw q.2 one).take 1 = s at subs subs2 sl
      refine ⟨⟨fun x hx => nm_ok (l1.nm x (subs x hx)), fun x hx => nm_ok (l1.nm x (subs x hx))⟩, ?_⟩
      rw [decide_eq_true rfl]
      show W.Ok (W.chk (one.length ≤ 1000000) _) _
      refine ⟨by omega, ?_⟩
      show W.Ok (W.bind (W.mapf _ _ one) _) _
      rw [W.mapf_eq (c := fun x => !decide (x ∈ s)) (g := fun x => x) (fun _ _ => rfl) (fun _ _ _ => rfl), List.map_id', W.pure_bind]
      have f1 : (one.filter fun x => !decide (x ∈ s)).length ≤ 40 := Nat.le_trans (List.length_filter_le _ _) b1
      have f2 : (two.filter fun x => !decide (x ∈ s)).length ≤ 40 := Nat.le_trans (List.length_filter_le _ _) b2
      refine ⟨by omega, by show two.length ≤ _; omega, ?_⟩
      show W.Ok (W.bind (W.mapf _ _ two) _) _
      rw [W.mapf_eq (c := fun x => !decide (x ∈ s)) (g := fun x => x) (fun _ _ => rfl) (fun _ _ _ => rfl), List.map_id', W.pure_bind]
      refine ⟨by omega, ?_⟩
      show Ln (s ++ one.filter _) ∧ Ln (s ++ two.filter _) ∧ 0 ≤ m ∧ Agr p.2 (s ++ one.filter _) (s ++ two.filter _) m.toNat
      match s, subs, subs2, sl with
      | [], _, _, _ =>
        have e1 : ∀ l : List Str, ([] ++ l.filter fun x => !decide (x ∈ ([] : List Str))) = l := fun l => by
          rw [List.nil_append]
          exact List.filter_eq_self.mpr fun x _ => by simp
        rw [e1, e1]
        exact ⟨l1, l2, m0, ag⟩
      | [x], subs, subs2, _ =>
        have e1 : ∀ l : List Str, ([x] ++ l.filter fun y => !decide (y ∈ [x])) = x :: wo x l := fun l => by
          rw [List.singleton_append]
          congr 1
          unfold wo
          congr 1
          funext y
          simp
        rw [e1, e1]
        exact ⟨l1.front (subs x (by simp)), l2.front (subs2 x (by simp)), m0, ag.call l1.nd x⟩
    · have hl : l.length ≤ 40 := by
        rcases List.mem_cons.mp hl with rfl | hl
        · exact b1
        · rw [List.mem_singleton.mp hl]; exact b2
      rw [W.chk_true (by omega), W.mapf_eq (c := fun x => decide (x ∈ q.2)) (g := fun x => x) (fun _ _ => rfl) (fun _ _ _ => rfl), List.map_id', W.pure_bind]
      congr 1
      rw [show (1 : Int) = ((1 : Nat) : Int) from rfl, cutL_to]
      rfl
end My

set_option Elab.async false
set_option linter.all false
set_option maxRecDepth 100000
set_option maxHeartbeats 8000000
namespace My
open PySem PySem.Spec PyProof.Rows L2 Dk
open PySem.W (DatumOrd)
open Evl (Ex)
open Dk.Py (rp)
open Dk.PyD (pic)
theorem put_perm {s : List Str} {k t : Nat} {a : Str} (h : s[k]? = some a) : ((s.eraseIdx k).take t ++ [a] ++ (s.eraseIdx k).drop t).Perm s := by
  have hk : k < s.length := (List.getElem?_eq_some_iff.mp h).1
  have e : s = s.take k ++ a :: s.drop (k + 1) := by
    have : a = s[k] := by rw [List.getElem?_eq_getElem hk] at h; exact (Option.some.inj h).symm
    rw [this, List.getElem_cons_drop, List.take_append_drop]
  have p1 : ((s.eraseIdx k).take t ++ [a] ++ (s.eraseIdx k).drop t).Perm (a :: s.eraseIdx k) := by
    have := (List.perm_middle (a := a) (l₁ := (s.eraseIdx k).take t) (l₂ := (s.eraseIdx k).drop t))
    rw [List.take_append_drop] at this
    rw [List.append_assoc]
    exact this
  refine p1.trans ?_
  rw [List.eraseIdx_eq_take_drop_succ]
  conv => rhs; rw [e]
  exact List.perm_middle.symm
theorem near_ok {line : List Str} (l1 : 1 ≤ line.length) (l2 : line.length ≤ 40) : W.Ok (law_near_line_m line) fun o => o.Perm line := by
  unfold law_near_line_m
  refine ok_take (by decide) fun x _ _ => W.ok_ite.mpr ⟨fun _ => ⟨by omega, fun ys h => h⟩, fun _ => ok_take (by decide) fun n n0 n1 => ⟨by omega, ?_⟩⟩
  refine W.ok_fold (fun _ s => s.Perm line) (.refl _) ?_ fun s h => h
  rintro z rest s - h
  have hl := h.length_eq
  refine ok_take (by omega) fun a a0 a1 => ok_take (by omega) fun b b0 b1 => ?_
  rw [W.pure_bind]
  refine ok_take (by decide) fun c c0 c1 => ⟨⟨by decide, by decide⟩, .inl ⟨by omega, by omega⟩, ?_⟩
  show W.Ok (W.chk (0 ≤ max (0 : Int) (a - c * (a / 2)) ∧ s.length ≤ 1000000) _) _
  have hm : 0 ≤ max (0 : Int) (a - c * (a / 2)) ∧ max (0 : Int) (a - c * (a / 2)) < s.length := by
    have : c = 0 ∨ c = 1 := by omega
    rcases this with rfl | rfl
    · rw [Int.zero_mul]; omega
    · rw [Int.one_mul]; omega
  generalize max (0 : Int) (a - c * (a / 2)) = i at hm
  have hi : i.toNat < s.length := by omega
  refine ⟨⟨hm.1, by omega⟩, s[i.toNat], List.getElem?_eq_getElem hi, ?_⟩
  show W.Ok (W.chk ((s.eraseIdx i.toNat).length ≤ 1000000 ∧ 0 ≤ b ∧ b < 2 ^ 63) (W.pure ((s.eraseIdx i.toNat).take b.toNat ++ [s[i.toNat]] ++ (s.eraseIdx i.toNat).drop b.toNat))) _
  refine ⟨⟨?_, b0, by omega⟩, (put_perm (List.getElem?_eq_getElem hi)).trans h⟩
  have := List.length_eraseIdx_le s i.toNat
  omega
theorem told_ok {p : PT} (ok : RosterOk p.1 p.2) {line other : List Str} {bound : Int} (hn : ∀ x ∈ line, Nm x) (hl : line.length ≤ 40) : ∀ {t : Told}, Part p.2 line other bound t → PyD.ok t ∧ PyD.okr t ∧ PyD.size t ≤ 1000000
  | .inl t, ⟨e, _⟩ => by
    subst e
    have o : okS (Str.ofString "alike") := by unfold okS; decide
    exact ⟨o, o, by show (Str.ofString "alike").length + 1 ≤ _; decide⟩
  | .inr ⟨a, l, d⟩, ⟨h1, h2, k, h3, h4, _⟩ => by
    have h1 : a = Str.ofString "apart" := h1
    have h4 : l = (ordd p.2 line d).take k := h4
    have sub : ∀ x ∈ l, x ∈ line := fun x hx => by
      rw [h4] at hx
      exact (List.filter_sublist ..).subset ((List.take_sublist _ _).subset hx)
    have ll : l.length ≤ 40 := by
      rw [h4, List.length_take]
      have : (ordd p.2 line d).length ≤ line.length := List.length_filter_le _ _
      omega
    obtain ⟨c, hc⟩ := key_in h2
    have o0 : okS a := by rw [h1]; unfold okS; decide
    have o1 : ∀ x ∈ l, okS x := fun x hx => nm_ok (hn x (sub x hx))
    have nd := ok.dnm (d, c) hc
    have o2 : okS d := nm_ok nd
    have s0 : a.length = 5 := by rw [h1]; decide
    have s1 : d.length ≤ 8 := nd.2.1
    have s2 : PyD.size l ≤ l.length * (8 + 1) := sizeL_le fun x hx => (hn x (sub x hx)).2.1
    refine ⟨⟨o0, o1, o2⟩, ⟨o0, o1, o2⟩, ?_⟩
    show a.length + PyD.size l + d.length + 3 ≤ 1000000
    omega
theorem agr_of {ds : List (Str × List Str)} (nd : (ds.map (·.1)).Nodup) {line other : List Str} {m : Nat} (h : ∀ d ∈ ds.map (·.1), ∀ k, FD (ordd ds line d) (ordd ds other d) (some k) → m < k) (hf : ∀ d ∈ ds.map (·.1), ∃ o, FD (ordd ds line d) (ordd ds other d) o) : Agr ds line other m := fun q hq => by
  have hd : q.1 ∈ ds.map (·.1) := List.mem_map_of_mem hq
  have e : ∀ l : List Str, cw q.2 l = ordd ds l q.1 := fun l => by unfold cw ordd; rw [crewOf_in nd hq]
  rw [e, e]
  obtain ⟨o, ho⟩ := hf q.1 hd
  cases o with
  | none => rw [show ordd ds line q.1 = ordd ds other q.1 from ho]
  | some k =>
    have hk := h q.1 hd k ho
    have := congrArg (List.take (m + 1)) (fd_get ho).2.2.1
    rwa [List.take_take, List.take_take, Nat.min_eq_left (by omega)] at this
theorem firsts_of {c p r : List Str} {x : Str} {line : List Str} (nl : line.Nodup) (h : line.filter (fun y => decide (y ∈ c)) = p ++ x :: r) : ∃ t, line.filter (fun y => decide (y ∈ c.filter fun z => !decide (z ∈ p))) = x :: t := by
  have e : line.filter (fun y => decide (y ∈ c.filter fun z => !decide (z ∈ p))) = (line.filter fun y => decide (y ∈ c)).filter fun y => !decide (y ∈ p) := by
    rw [List.filter_filter]
    congr 1
    funext y
    rw [Bool.eq_iff_iff]
    simp [List.mem_filter, and_comm]
  have nd : (p ++ x :: r).Nodup := by rw [← h]; exact nl.sublist (List.filter_sublist ..)
  have hx : x ∉ p := fun hm => (List.nodup_append.mp nd).2.2 x hm x (List.mem_cons_self ..) rfl
  rw [e, h, List.filter_append, List.filter_cons, decide_eq_false hx]
  have : p.filter (fun y => !decide (y ∈ p)) = [] := List.filter_eq_nil_iff.mpr fun y hy => by simp [hy]
  rw [this]
  exact ⟨_, rfl⟩
theorem at_zero {α : Type} {x : α} {l : List α} : PyAt (x :: l) 0 = some x := by rw [show (0 : Int) = ((0 : Nat) : Int) from rfl, PyAt_nat]; rfl
theorem law_true {C : Addr} : W.Ok (law_m (C := C)) fun b => b = true := by
  unfold law_m
  refine W.ok_thenL (I := fun _ => True) ⟨by decide, W.ok_loopM (fun _ => True) trivial (fun turn _ s _ => ?_) fun _ _ => trivial⟩ fun _ _ => rfl
  refine ⟨by simp, ok_take (by decide) fun i i0 i1 => ?_⟩
  obtain ⟨q, eq, hq⟩ := PyAt_some (xs := [((8 : Int), (12 : Int)), ((40 : Int), (60 : Int))]) i0 i1
  have hq : q = (8, 12) ∨ q = (40, 60) := by simpa using hq
  have qb : 1 ≤ q.1 ∧ q.1 ≤ 40 ∧ 0 ≤ q.2 ∧ q.2 ≤ 60 := by rcases hq with rfl | rfl <;> decide
  refine ⟨q, eq, ⟨by omega, by omega, by omega, by omega⟩, fun parts hp => ?_⟩
  have ok := parts_ok ⟨q.1.toNat, q.2.toNat, hp, by omega, by omega⟩
  have w1 := ok.w1
  have w2 := ok.w2
  have d2 := ok.d2
  refine ⟨by omega, fun line pl => ?_⟩
  have ll : line.length = parts.1.length := pl.length_eq
  have lln : Ln line := ⟨pl.nodup_iff.mpr ok.wnd, fun x hx => ok.wnm x (pl.mem_iff.mp hx), by omega⟩
  refine W.Ok.bind (near_ok (by omega) (by omega)) fun other po => ?_
  have lot : Ln other := ⟨po.nodup_iff.mpr lln.nd, fun x hx => lln.nm x (po.mem_iff.mp hx), by rw [po.length_eq]; omega⟩
  refine ok_ros ok fun roster hm => ok_take (by decide) fun x x0 x1 => ok_take (by decide) fun y y0 y1 => ⟨by simp, ok_take (by decide) fun j j0 j1 => ?_⟩
  obtain ⟨bound, eb, hb⟩ := PyAt_some (xs := [x, y]) j0 j1
  have b0 : 0 ≤ bound := by
    have hb : bound = x ∨ bound = y := by simpa using hb
    rcases hb with rfl | rfl <;> assumption
  refine ⟨bound, eb, ?_⟩
  show W.Ok (W.bind (compare_m roster line other bound) _) _
  refine W.Ok.bind (compare_ok hm ok po (by omega)) fun found hf => ?_
  show W.Ok (W.bind (law_parting_m parts line other bound) _) _
  refine W.Ok.bind (parting_ok ok po (by omega)) fun due hd => ?_
  have e := part_one hd hf
  subst e
  obtain ⟨t1, t2, t3⟩ := told_ok ok lln.nm (by omega) hf
  refine ⟨⟨t1, t1, t2, t3⟩, ?_⟩
  rw [decide_eq_true rfl, Bool.not_true, W.ite_false]
  have ex : ∀ d ∈ parts.2.map (·.1), ∃ o, FD (ordd parts.2 line d) (ordd parts.2 other d) o := fun d _ => by
    obtain ⟨o, h, _⟩ := plc_fd (ordd_len (ds := parts.2) (d := d) po)
    exact ⟨o, h⟩
  cases due with
  | inl t =>
    obtain ⟨et, no⟩ := hf
    have e1 : t.x1 = Str.ofString "alike" := by rw [et]
    clear hd et
    have ag : Agr parts.2 line other bound.toNat := agr_of ok.dnd (fun d hd k hk => Classical.byContradiction fun n => no d hd k ⟨hk, by omega⟩) ex
    show W.Ok (W.bind (W.ite (decide (t.x1 = Str.ofString "alike")) (W.pure bound) _) _) _
    rw [e1, decide_eq_true rfl, W.ite_true, W.pure_bind]
    refine W.Ok.bind (P := fun c => c = false) (W.ok_ite.mpr ⟨fun _ => (same_ok ok lln lot b0 ag).bind fun b eb => by rw [eb]; rfl, fun _ => rfl⟩) fun c ec => ?_
    subst ec
    show W.Ok (W.ite (decide (t.x1 = Str.ofString "apart")) _ _) _
    rw [e1, decide_eq_false (by decide)]
    exact trivial
  | inr t =>
    obtain ⟨s1, s2, k, s3, s4, s5⟩ := hf
    obtain ⟨p, u, v, r, r', eA, eB, ne, lp⟩ := s3.1
    have kA := (fd_get s3.1).2.2.2.1
    have tl : t.x2.length = k := by rw [s4, List.length_take]; omega
    have tp : t.x2 = p := by rw [s4, eA]; exact List.take_left' lp
    show W.Ok (W.bind (W.ite (decide (t.x1 = Str.ofString "alike")) _ (W.bind (W.get (some t)) fun p => W.pure ((p.x2.length : Int) - 1))) _) _
    rw [s1, decide_eq_false (by decide), W.ite_false, W.get_some, W.pure_bind, W.pure_bind, tl]
    refine W.Ok.bind (P := fun c => c = false) (W.ok_ite.mpr ⟨fun c => ?_, fun _ => rfl⟩) fun c ec => ?_
    · have c : 0 ≤ (k : Int) - 1 := of_decide_eq_true c
      have ag : Agr parts.2 line other ((k : Int) - 1).toNat := agr_of ok.dnd (fun d hd j hj => Classical.byContradiction fun n => ?_) ex
      · exact (same_ok ok lln lot c ag).bind fun b eb => by rw [eb]; rfl
      · have bj : Bad parts.2 line other bound d j := ⟨hj, by have := s3.2; omega⟩
        have h := (lt_pair _ _).mp (s5 d hd j bj)
        have h1 : ¬ (j : Int) < (k : Int) := of_decide_eq_false h.1
        omega
    · subst ec
      show W.Ok (W.ite (decide (t.x1 = Str.ofString "apart")) _ _) _
      rw [s1, decide_eq_true rfl]
      show W.Ok (W.chk _ (W.bind (W.get (some t)) _)) _
      refine ⟨ok.dnd, ?_⟩
      rw [W.get_some, W.pure_bind]
      refine ⟨ok.dnd, crewOf parts.2 t.x3, lookup_in ok.dnd (crewOf_mem ok.dnd s2), ?_⟩
      have hc := ok.dcr _ (crewOf_mem ok.dnd s2)
      have cl := crew_len hc
      refine ⟨by show (crewOf parts.2 t.x3).length ≤ _; have : (crewOf parts.2 t.x3).length ≤ parts.1.length := cl; omega, ?_⟩
      show W.Ok (W.bind (W.mapf (fun z => W.bind (W.get (some t)) fun p => W.pure (!decide (z ∈ p.x2))) (fun z => W.pure z) (crewOf parts.2 t.x3)) _) _
      rw [W.mapf_eq (c := fun z => !decide (z ∈ p)) (g := fun z => z) (fun z _ => by rw [W.get_some, W.pure_bind, tp]) (fun _ _ _ => rfl), List.map_id', W.pure_bind]
      refine ⟨by simp, by simp, ?_⟩
      obtain ⟨z1, hz1⟩ := firsts_of (c := crewOf parts.2 t.x3) lln.nd eA
      obtain ⟨z2, hz2⟩ := firsts_of (c := crewOf parts.2 t.x3) lot.nd eB
      rw [W.mapf_all (g := fun l : List Str => if l = line then u else v) fun l hl => ?_]
      · rw [W.pure_bind]
        have neq : other ≠ line := fun h => by
          rw [h, eA] at eB
          have := List.append_cancel_left eB
          injection this with h1 _
          exact ne h1
        show W.Ok (W.bind (W.get (PyAt [if line = line then u else v, if other = line then u else v] 0)) fun a => W.bind (W.get (PyAt [if line = line then u else v, if other = line then u else v] 1)) _) _
        rw [if_pos rfl, if_neg neq, show PyAt [u, v] 0 = some u from rfl, show PyAt [u, v] 1 = some v from rfl, W.get_some, W.pure_bind, W.get_some, W.pure_bind, decide_eq_false ne]
        exact trivial
      · have hl2 : l.length ≤ 1000000 := by
          rcases List.mem_cons.mp hl with rfl | hl
          · have := lln.len; omega
          · rw [List.mem_singleton.mp hl]; have := lot.len; omega
        rw [W.chk_true hl2, W.mapf_eq (c := fun y => decide (y ∈ (crewOf parts.2 t.x3).filter fun z => !decide (z ∈ p))) (g := fun y => y) (fun _ _ => rfl) (fun _ _ _ => rfl), List.map_id', W.pure_bind]
        rcases List.mem_cons.mp hl with rfl | hl
        · rw [hz1, if_pos rfl, at_zero, W.get_some]
        · have hl := List.mem_singleton.mp hl
          subst hl
          rw [hz2]
          by_cases h : l = line
          · rw [if_pos h]
            rw [h, hz1] at hz2
            injection hz2 with h1 _
            rw [h1, at_zero, W.get_some]
          · rw [if_neg h, at_zero, W.get_some]
section
variable {P : Program} {w : World} {K : PySem.W.Frag} {mg : Str → Option Value} {base : Heap}
theorem ok_law (T : Tx K mg) : FnG P w K mg base CX0 8 T.a_law T.d_law p_law (sp K) := law_ok T law_true
end

theorem all_mk {l : PySem.W.OpenLaw} {w : World} {K : PySem.W.Frag} {h : Heap} {mg : Str → Option Value} {fa : Addr} (X : K.In h) (G : h.Ns mainGlobals mg) (hfa : mg "law" = some (.ref fa))
    {f1 : Addr} {od1 an1 : Option Addr} {sl1 : Array (Option Value)} {oc1 kV1 dc1 pm1 cd1 ct1 : Value}
    {f2 : Addr} {od2 an2 : Option Addr} {sl2 : Array (Option Value)} {oc2 kV2 dc2 pm2 cd2 ct2 : Value}
    {f3 : Addr} {od3 an3 : Option Addr} {sl3 : Array (Option Value)} {oc3 kV3 dc3 pm3 cd3 ct3 : Value}
    {f4 : Addr} {od4 an4 : Option Addr} {sl4 : Array (Option Value)} {oc4 kV4 dc4 pm4 cd4 ct4 : Value}
    {f5 : Addr} {od5 an5 : Option Addr} {sl5 : Array (Option Value)} {oc5 kV5 dc5 pm5 cd5 ct5 : Value}
    {f6 : Addr} {od6 an6 : Option Addr} {sl6 : Array (Option Value)} {oc6 kV6 dc6 pm6 cd6 ct6 : Value}
    {f7 : Addr} {od7 an7 : Option Addr} {sl7 : Array (Option Value)} {oc7 kV7 dc7 pm7 cd7 ct7 : Value}
    {f8 : Addr} {od8 an8 : Option Addr} {sl8 : Array (Option Value)} {oc8 kV8 dc8 pm8 cd8 ct8 : Value}
    {f9 : Addr} {od9 an9 : Option Addr} {sl9 : Array (Option Value)} {oc9 kV9 dc9 pm9 cd9 ct9 : Value}
    {f10 : Addr} {od10 an10 : Option Addr} {sl10 : Array (Option Value)} {oc10 kV10 dc10 pm10 cd10 ct10 : Value}
    {f11 : Addr} {od11 an11 : Option Addr} {sl11 : Array (Option Value)} {oc11 kV11 dc11 pm11 cd11 ct11 : Value}
    {f12 : Addr} {od12 an12 : Option Addr} {sl12 : Array (Option Value)} {oc12 kV12 dc12 pm12 cd12 ct12 : Value}
    {f13 : Addr} {od13 an13 : Option Addr} {sl13 : Array (Option Value)} {oc13 kV13 dc13 pm13 cd13 ct13 : Value}
    {f14 : Addr} {od14 an14 : Option Addr} {sl14 : Array (Option Value)} {oc14 kV14 dc14 pm14 cd14 ct14 : Value}
    {f15 : Addr} {od15 an15 : Option Addr} {sl15 : Array (Option Value)} {oc15 kV15 dc15 pm15 cd15 ct15 : Value}
    {f16 : Addr} {od16 an16 : Option Addr} {sl16 : Array (Option Value)} {oc16 kV16 dc16 pm16 cd16 ct16 : Value}
    {f17 : Addr} {od17 an17 : Option Addr} {sl17 : Array (Option Value)} {oc17 kV17 dc17 pm17 cd17 ct17 : Value}
    {f18 : Addr} {od18 an18 : Option Addr} {sl18 : Array (Option Value)} {oc18 kV18 dc18 pm18 cd18 ct18 : Value}
    {f19 : Addr} {od19 an19 : Option Addr} {sl19 : Array (Option Value)} {oc19 kV19 dc19 pm19 cd19 ct19 : Value}
    {f20 : Addr} {od20 an20 : Option Addr} {sl20 : Array (Option Value)} {oc20 kV20 dc20 pm20 cd20 ct20 : Value}
    {f21 : Addr} {od21 an21 : Option Addr} {sl21 : Array (Option Value)} {oc21 kV21 dc21 pm21 cd21 ct21 : Value}
    {f22 : Addr} {od22 an22 : Option Addr} {sl22 : Array (Option Value)} {oc22 kV22 dc22 pm22 cd22 ct22 : Value}
    {f23 : Addr} {od23 an23 : Option Addr} {sl23 : Array (Option Value)} {oc23 kV23 dc23 pm23 cd23 ct23 : Value}
    {f24 : Addr} {od24 an24 : Option Addr} {sl24 : Array (Option Value)} {oc24 kV24 dc24 pm24 cd24 ct24 : Value}
    {f25 : Addr} {od25 an25 : Option Addr} {sl25 : Array (Option Value)} {oc25 kV25 dc25 pm25 cd25 ct25 : Value}
    {f26 : Addr} {od26 an26 : Option Addr} {sl26 : Array (Option Value)} {oc26 kV26 dc26 pm26 cd26 ct26 : Value}
    {C_Roster : Addr}
    {t_LETTERS : Tok}
    {t_LONGEST_NAME : Tok}
    {t_MOST_WORKERS : Tok}
    {t_MOST_DESKS : Tok}
    (g1 : PySem.W.nsIn K mainGlobals "_ordered" = some (some (.ref f1)))
    (l1 : K.lookup f1 = some ⟨oc1, od1, .func (PySem.W.fnOf "_ordered" "_ordered" (defArgs s_ordered) (defBody s_ordered) (defScope s_ordered) .none kV1 dc1 pm1 an1 cd1 ct1), sl1⟩)
    (c1 : PySem.W.codeIn K cd1 "_ordered" = true)
    (k1 : PySem.W.keepIn K (.ref f1) = true)
    (g2 : PySem.W.nsIn K mainGlobals "_first_difference" = some (some (.ref f2)))
    (l2 : K.lookup f2 = some ⟨oc2, od2, .func (PySem.W.fnOf "_first_difference" "_first_difference" (defArgs s_first_difference) (defBody s_first_difference) (defScope s_first_difference) .none kV2 dc2 pm2 an2 cd2 ct2), sl2⟩)
    (c2 : PySem.W.codeIn K cd2 "_first_difference" = true)
    (k2 : PySem.W.keepIn K (.ref f2) = true)
    (g3 : PySem.W.nsIn K mainGlobals "compare" = some (some (.ref f3)))
    (l3 : K.lookup f3 = some ⟨oc3, od3, .func (PySem.W.fnOf "compare" "compare" (defArgs s_compare) (defBody s_compare) (defScope s_compare) .none kV3 dc3 pm3 an3 cd3 ct3), sl3⟩)
    (c3 : PySem.W.codeIn K cd3 "compare" = true)
    (k3 : PySem.W.keepIn K (.ref f3) = true)
    (g4 : PySem.W.nsIn K mainGlobals "is_name" = some (some (.ref f4)))
    (l4 : K.lookup f4 = some ⟨oc4, od4, .func (PySem.W.fnOf "is_name" "is_name" (defArgs s_is_name) (defBody s_is_name) (defScope s_is_name) .none kV4 dc4 pm4 an4 cd4 ct4), sl4⟩)
    (c4 : PySem.W.codeIn K cd4 "is_name" = true)
    (k4 : PySem.W.keepIn K (.ref f4) = true)
    (g5 : PySem.W.nsIn K mainGlobals "are_names" = some (some (.ref f5)))
    (l5 : K.lookup f5 = some ⟨oc5, od5, .func (PySem.W.fnOf "are_names" "are_names" (defArgs s_are_names) (defBody s_are_names) (defScope s_are_names) .none kV5 dc5 pm5 an5 cd5 ct5), sl5⟩)
    (c5 : PySem.W.codeIn K cd5 "are_names" = true)
    (k5 : PySem.W.keepIn K (.ref f5) = true)
    (g6 : PySem.W.nsIn K mainGlobals "_is_desk" = some (some (.ref f6)))
    (l6 : K.lookup f6 = some ⟨oc6, od6, .func (PySem.W.fnOf "_is_desk" "_is_desk" (defArgs s_is_desk) (defBody s_is_desk) (defScope s_is_desk) .none kV6 dc6 pm6 an6 cd6 ct6), sl6⟩)
    (c6 : PySem.W.codeIn K cd6 "_is_desk" = true)
    (k6 : PySem.W.keepIn K (.ref f6) = true)
    (g7 : PySem.W.nsIn K mainGlobals "_first_bad_desk" = some (some (.ref f7)))
    (l7 : K.lookup f7 = some ⟨oc7, od7, .func (PySem.W.fnOf "_first_bad_desk" "_first_bad_desk" (defArgs s_first_bad_desk) (defBody s_first_bad_desk) (defScope s_first_bad_desk) .none kV7 dc7 pm7 an7 cd7 ct7), sl7⟩)
    (c7 : PySem.W.codeIn K cd7 "_first_bad_desk" = true)
    (k7 : PySem.W.keepIn K (.ref f7) = true)
    (l8 : K.lookup f8 = some ⟨oc8, od8, .func (PySem.W.fnOf "__init__" "Roster.__init__" (defArgs s_Roster_init) (defBody s_Roster_init) (defScope s_Roster_init) .none kV8 dc8 pm8 an8 cd8 ct8), sl8⟩)
    (c8 : PySem.W.codeIn K cd8 "Roster.__init__" = true)
    (k8 : PySem.W.keepIn K (.ref f8) = true)
    (l9 : K.lookup f9 = some ⟨oc9, od9, .func (PySem.W.fnOf "__eq__" "Roster.__eq__" (defArgs s_Roster_eq) (defBody s_Roster_eq) (defScope s_Roster_eq) .none kV9 dc9 pm9 an9 cd9 ct9), sl9⟩)
    (c9 : PySem.W.codeIn K cd9 "Roster.__eq__" = true)
    (k9 : PySem.W.keepIn K (.ref f9) = true)
    (l10 : K.lookup f10 = some ⟨oc10, od10, .func (PySem.W.fnOf "__len__" "Roster.__len__" (defArgs s_Roster_len) (defBody s_Roster_len) (defScope s_Roster_len) .none kV10 dc10 pm10 an10 cd10 ct10), sl10⟩)
    (c10 : PySem.W.codeIn K cd10 "Roster.__len__" = true)
    (k10 : PySem.W.keepIn K (.ref f10) = true)
    (l11 : K.lookup f11 = some ⟨oc11, od11, .func (PySem.W.fnOf "workers" "Roster.workers" (defArgs s_Roster_workers) (defBody s_Roster_workers) (defScope s_Roster_workers) .none kV11 dc11 pm11 an11 cd11 ct11), sl11⟩)
    (c11 : PySem.W.codeIn K cd11 "Roster.workers" = true)
    (k11 : PySem.W.keepIn K (.ref f11) = true)
    (l12 : K.lookup f12 = some ⟨oc12, od12, .func (PySem.W.fnOf "desks" "Roster.desks" (defArgs s_Roster_desks) (defBody s_Roster_desks) (defScope s_Roster_desks) .none kV12 dc12 pm12 an12 cd12 ct12), sl12⟩)
    (c12 : PySem.W.codeIn K cd12 "Roster.desks" = true)
    (k12 : PySem.W.keepIn K (.ref f12) = true)
    (l13 : K.lookup f13 = some ⟨oc13, od13, .func (PySem.W.fnOf "crew" "Roster.crew" (defArgs s_Roster_crew) (defBody s_Roster_crew) (defScope s_Roster_crew) .none kV13 dc13 pm13 an13 cd13 ct13), sl13⟩)
    (c13 : PySem.W.codeIn K cd13 "Roster.crew" = true)
    (k13 : PySem.W.keepIn K (.ref f13) = true)
    (g14 : PySem.W.nsIn K mainGlobals "_law_bag" = some (some (.ref f14)))
    (l14 : K.lookup f14 = some ⟨oc14, od14, .func (PySem.W.fnOf "_law_bag" "_law_bag" (defArgs s_law_bag) (defBody s_law_bag) (defScope s_law_bag) .none kV14 dc14 pm14 an14 cd14 ct14), sl14⟩)
    (c14 : PySem.W.codeIn K cd14 "_law_bag" = true)
    (k14 : PySem.W.keepIn K (.ref f14) = true)
    (g15 : PySem.W.nsIn K mainGlobals "_law_take" = some (some (.ref f15)))
    (l15 : K.lookup f15 = some ⟨oc15, od15, .func (PySem.W.fnOf "_law_take" "_law_take" (defArgs s_law_take) (defBody s_law_take) (defScope s_law_take) .none kV15 dc15 pm15 an15 cd15 ct15), sl15⟩)
    (c15 : PySem.W.codeIn K cd15 "_law_take" = true)
    (k15 : PySem.W.keepIn K (.ref f15) = true)
    (g16 : PySem.W.nsIn K mainGlobals "_law_alike" = some (some (.ref f16)))
    (l16 : K.lookup f16 = some ⟨oc16, od16, .func (PySem.W.fnOf "_law_alike" "_law_alike" (defArgs s_law_alike) (defBody s_law_alike) (defScope s_law_alike) .none kV16 dc16 pm16 an16 cd16 ct16), sl16⟩)
    (c16 : PySem.W.codeIn K cd16 "_law_alike" = true)
    (k16 : PySem.W.keepIn K (.ref f16) = true)
    (g17 : PySem.W.nsIn K mainGlobals "_law_names" = some (some (.ref f17)))
    (l17 : K.lookup f17 = some ⟨oc17, od17, .func (PySem.W.fnOf "_law_names" "_law_names" (defArgs s_law_names) (defBody s_law_names) (defScope s_law_names) .none kV17 dc17 pm17 an17 cd17 ct17), sl17⟩)
    (c17 : PySem.W.codeIn K cd17 "_law_names" = true)
    (k17 : PySem.W.keepIn K (.ref f17) = true)
    (g18 : PySem.W.nsIn K mainGlobals "_law_mixed" = some (some (.ref f18)))
    (l18 : K.lookup f18 = some ⟨oc18, od18, .func (PySem.W.fnOf "_law_mixed" "_law_mixed" (defArgs s_law_mixed) (defBody s_law_mixed) (defScope s_law_mixed) .none kV18 dc18 pm18 an18 cd18 ct18), sl18⟩)
    (c18 : PySem.W.codeIn K cd18 "_law_mixed" = true)
    (k18 : PySem.W.keepIn K (.ref f18) = true)
    (g19 : PySem.W.nsIn K mainGlobals "_law_crew" = some (some (.ref f19)))
    (l19 : K.lookup f19 = some ⟨oc19, od19, .func (PySem.W.fnOf "_law_crew" "_law_crew" (defArgs s_law_crew) (defBody s_law_crew) (defScope s_law_crew) .none kV19 dc19 pm19 an19 cd19 ct19), sl19⟩)
    (c19 : PySem.W.codeIn K cd19 "_law_crew" = true)
    (k19 : PySem.W.keepIn K (.ref f19) = true)
    (g20 : PySem.W.nsIn K mainGlobals "_law_parts" = some (some (.ref f20)))
    (l20 : K.lookup f20 = some ⟨oc20, od20, .func (PySem.W.fnOf "_law_parts" "_law_parts" (defArgs s_law_parts) (defBody s_law_parts) (defScope s_law_parts) .none kV20 dc20 pm20 an20 cd20 ct20), sl20⟩)
    (c20 : PySem.W.codeIn K cd20 "_law_parts" = true)
    (k20 : PySem.W.keepIn K (.ref f20) = true)
    (g21 : PySem.W.nsIn K mainGlobals "_law_roster" = some (some (.ref f21)))
    (l21 : K.lookup f21 = some ⟨oc21, od21, .func (PySem.W.fnOf "_law_roster" "_law_roster" (defArgs s_law_roster) (defBody s_law_roster) (defScope s_law_roster) .none kV21 dc21 pm21 an21 cd21 ct21), sl21⟩)
    (c21 : PySem.W.codeIn K cd21 "_law_roster" = true)
    (k21 : PySem.W.keepIn K (.ref f21) = true)
    (g22 : PySem.W.nsIn K mainGlobals "_law_order" = some (some (.ref f22)))
    (l22 : K.lookup f22 = some ⟨oc22, od22, .func (PySem.W.fnOf "_law_order" "_law_order" (defArgs s_law_order) (defBody s_law_order) (defScope s_law_order) .none kV22 dc22 pm22 an22 cd22 ct22), sl22⟩)
    (c22 : PySem.W.codeIn K cd22 "_law_order" = true)
    (k22 : PySem.W.keepIn K (.ref f22) = true)
    (g23 : PySem.W.nsIn K mainGlobals "_law_parting" = some (some (.ref f23)))
    (l23 : K.lookup f23 = some ⟨oc23, od23, .func (PySem.W.fnOf "_law_parting" "_law_parting" (defArgs s_law_parting) (defBody s_law_parting) (defScope s_law_parting) .none kV23 dc23 pm23 an23 cd23 ct23), sl23⟩)
    (c23 : PySem.W.codeIn K cd23 "_law_parting" = true)
    (k23 : PySem.W.keepIn K (.ref f23) = true)
    (g24 : PySem.W.nsIn K mainGlobals "_law_near_line" = some (some (.ref f24)))
    (l24 : K.lookup f24 = some ⟨oc24, od24, .func (PySem.W.fnOf "_law_near_line" "_law_near_line" (defArgs s_law_near_line) (defBody s_law_near_line) (defScope s_law_near_line) .none kV24 dc24 pm24 an24 cd24 ct24), sl24⟩)
    (c24 : PySem.W.codeIn K cd24 "_law_near_line" = true)
    (k24 : PySem.W.keepIn K (.ref f24) = true)
    (g25 : PySem.W.nsIn K mainGlobals "_law_same" = some (some (.ref f25)))
    (l25 : K.lookup f25 = some ⟨oc25, od25, .func (PySem.W.fnOf "_law_same" "_law_same" (defArgs s_law_same) (defBody s_law_same) (defScope s_law_same) .none kV25 dc25 pm25 an25 cd25 ct25), sl25⟩)
    (c25 : PySem.W.codeIn K cd25 "_law_same" = true)
    (k25 : PySem.W.keepIn K (.ref f25) = true)
    (g26 : PySem.W.nsIn K mainGlobals "law" = some (some (.ref f26)))
    (l26 : K.lookup f26 = some ⟨oc26, od26, .func (PySem.W.fnOf "law" "law" (defArgs s_law) (defBody s_law) (defScope s_law) .none kV26 dc26 pm26 an26 cd26 ct26), sl26⟩)
    (c26 : PySem.W.codeIn K cd26 "law" = true)
    (k26 : PySem.W.keepIn K (.ref f26) = true)
    (gC_Roster : PySem.W.nsIn K mainGlobals "Roster" = some (some (.ref C_Roster)))
    (pg_Roster : PySem.W.plainGet K C_Roster Str.empty = true)
    (hd_Roster : PySem.W.hasDictIn K C_Roster = true)
    (po_Roster : PySem.W.plainOver K C_Roster = true)
    (sa_Roster : PySem.W.findIn K (.ref C_Roster) "__setattr__" = some (some (.builtin "object.__setattr__")))
    (mk_Roster : PySem.W.makesIn K C_Roster = true)
    (kc_Roster : PySem.W.keepIn K (.ref C_Roster) = true)
    (nf_Roster__workers : PySem.W.findIn K (.ref C_Roster) "_workers" = some none)
    (nf_Roster__crews : PySem.W.findIn K (.ref C_Roster) "_crews" = some none)
    (fi8 : PySem.W.findIn K (.ref C_Roster) "__init__" = some (some (.ref f8)))
    (if8 : PySem.W.isFn K (.ref f8) = true)
    (fi9 : PySem.W.findIn K (.ref C_Roster) "__eq__" = some (some (.ref f9)))
    (if9 : PySem.W.isFn K (.ref f9) = true)
    (fi10 : PySem.W.findIn K (.ref C_Roster) "__len__" = some (some (.ref f10)))
    (if10 : PySem.W.isFn K (.ref f10) = true)
    (fi11 : PySem.W.findIn K (.ref C_Roster) "workers" = some (some (.ref f11)))
    (if11 : PySem.W.isFn K (.ref f11) = true)
    (fi12 : PySem.W.findIn K (.ref C_Roster) "desks" = some (some (.ref f12)))
    (if12 : PySem.W.isFn K (.ref f12) = true)
    (fi13 : PySem.W.findIn K (.ref C_Roster) "crew" = some (some (.ref f13)))
    (if13 : PySem.W.isFn K (.ref f13) = true)
    (z_ValueError : PySem.W.nsIn K mainGlobals "ValueError" = some none)
    (z_abs : PySem.W.nsIn K mainGlobals "abs" = some none)
    (z_all : PySem.W.nsIn K mainGlobals "all" = some none)
    (z_dict : PySem.W.nsIn K mainGlobals "dict" = some none)
    (z_enumerate : PySem.W.nsIn K mainGlobals "enumerate" = some none)
    (z_int : PySem.W.nsIn K mainGlobals "int" = some none)
    (z_isinstance : PySem.W.nsIn K mainGlobals "isinstance" = some none)
    (z_len : PySem.W.nsIn K mainGlobals "len" = some none)
    (z_list : PySem.W.nsIn K mainGlobals "list" = some none)
    (z_max : PySem.W.nsIn K mainGlobals "max" = some none)
    (z_min : PySem.W.nsIn K mainGlobals "min" = some none)
    (z_range : PySem.W.nsIn K mainGlobals "range" = some none)
    (z_repr : PySem.W.nsIn K mainGlobals "repr" = some none)
    (z_set : PySem.W.nsIn K mainGlobals "set" = some none)
    (z_sorted : PySem.W.nsIn K mainGlobals "sorted" = some none)
    (z_str : PySem.W.nsIn K mainGlobals "str" = some none)
    (z_tuple : PySem.W.nsIn K mainGlobals "tuple" = some none)
    (z_zip : PySem.W.nsIn K mainGlobals "zip" = some none)
    (gk_LETTERS : PySem.W.nsIn K mainGlobals "LETTERS" = some (some (.str "abcdefghijklmnopqrstuvwxyz" t_LETTERS)))
    (gk_LONGEST_NAME : PySem.W.nsIn K mainGlobals "LONGEST_NAME" = some (some (.int 8 t_LONGEST_NAME)))
    (gk_MOST_WORKERS : PySem.W.nsIn K mainGlobals "MOST_WORKERS" = some (some (.int 40 t_MOST_WORKERS)))
    (gk_MOST_DESKS : PySem.W.nsIn K mainGlobals "MOST_DESKS" = some (some (.int 60 t_MOST_DESKS)))
    : ∃ fd : FuncData, (∀ (s : Shared) (v : Value), BindsTo s fd ⟨[v], []⟩ [("script", v)]) ∧ ∀ base : Heap, K.In base → base.Ns mainGlobals mg → FnG l.prog w K mg base CX0 8 fa fd p_law (sp K) := by
  have e : f26 = fa := Value.ref.inj (Option.some.inj ((PySem.W.mg_of X G g26).symm.trans hfa))
  subst e
  let T : Tx K mg := {
    a_ordered := f1,
    d_ordered := PySem.W.fnOf "_ordered" "_ordered" (defArgs s_ordered) (defBody s_ordered) (defScope s_ordered) .none kV1 dc1 pm1 an1 cd1 ct1,
    f_ordered := fun_mk (st := s_ordered) l1 c1 k1,
    b_ordered := (fun_mk (st := s_ordered) l1 c1 k1).binds (ps := p_ordered) fun _ _ _ _ _ _ us hl => match us, hl with | [_, _, _], _ => rfl,
    g_ordered := PySem.W.mg_of X G g1,
    k_ordered := k1,
    a_first_difference := f2,
    d_first_difference := PySem.W.fnOf "_first_difference" "_first_difference" (defArgs s_first_difference) (defBody s_first_difference) (defScope s_first_difference) .none kV2 dc2 pm2 an2 cd2 ct2,
    f_first_difference := fun_mk (st := s_first_difference) l2 c2 k2,
    b_first_difference := (fun_mk (st := s_first_difference) l2 c2 k2).binds (ps := p_first_difference) fun _ _ _ _ _ _ us hl => match us, hl with | [_, _], _ => rfl,
    g_first_difference := PySem.W.mg_of X G g2,
    k_first_difference := k2,
    a_compare := f3,
    d_compare := PySem.W.fnOf "compare" "compare" (defArgs s_compare) (defBody s_compare) (defScope s_compare) .none kV3 dc3 pm3 an3 cd3 ct3,
    f_compare := fun_mk (st := s_compare) l3 c3 k3,
    b_compare := (fun_mk (st := s_compare) l3 c3 k3).binds (ps := p_compare) fun _ _ _ _ _ _ us hl => match us, hl with | [_, _, _, _], _ => rfl,
    g_compare := PySem.W.mg_of X G g3,
    k_compare := k3,
    a_is_name := f4,
    d_is_name := PySem.W.fnOf "is_name" "is_name" (defArgs s_is_name) (defBody s_is_name) (defScope s_is_name) .none kV4 dc4 pm4 an4 cd4 ct4,
    f_is_name := fun_mk (st := s_is_name) l4 c4 k4,
    b_is_name := (fun_mk (st := s_is_name) l4 c4 k4).binds (ps := p_is_name) fun _ _ _ _ _ _ us hl => match us, hl with | [_], _ => rfl,
    g_is_name := PySem.W.mg_of X G g4,
    k_is_name := k4,
    a_are_names := f5,
    d_are_names := PySem.W.fnOf "are_names" "are_names" (defArgs s_are_names) (defBody s_are_names) (defScope s_are_names) .none kV5 dc5 pm5 an5 cd5 ct5,
    f_are_names := fun_mk (st := s_are_names) l5 c5 k5,
    b_are_names := (fun_mk (st := s_are_names) l5 c5 k5).binds (ps := p_are_names) fun _ _ _ _ _ _ us hl => match us, hl with | [_], _ => rfl,
    g_are_names := PySem.W.mg_of X G g5,
    k_are_names := k5,
    a_is_desk := f6,
    d_is_desk := PySem.W.fnOf "_is_desk" "_is_desk" (defArgs s_is_desk) (defBody s_is_desk) (defScope s_is_desk) .none kV6 dc6 pm6 an6 cd6 ct6,
    f_is_desk := fun_mk (st := s_is_desk) l6 c6 k6,
    b_is_desk := (fun_mk (st := s_is_desk) l6 c6 k6).binds (ps := p_is_desk) fun _ _ _ _ _ _ us hl => match us, hl with | [_, _], _ => rfl,
    g_is_desk := PySem.W.mg_of X G g6,
    k_is_desk := k6,
    a_first_bad_desk := f7,
    d_first_bad_desk := PySem.W.fnOf "_first_bad_desk" "_first_bad_desk" (defArgs s_first_bad_desk) (defBody s_first_bad_desk) (defScope s_first_bad_desk) .none kV7 dc7 pm7 an7 cd7 ct7,
    f_first_bad_desk := fun_mk (st := s_first_bad_desk) l7 c7 k7,
    b_first_bad_desk := (fun_mk (st := s_first_bad_desk) l7 c7 k7).binds (ps := p_first_bad_desk) fun _ _ _ _ _ _ us hl => match us, hl with | [_, _], _ => rfl,
    g_first_bad_desk := PySem.W.mg_of X G g7,
    k_first_bad_desk := k7,
    a_Roster_init := f8,
    d_Roster_init := PySem.W.fnOf "__init__" "Roster.__init__" (defArgs s_Roster_init) (defBody s_Roster_init) (defScope s_Roster_init) .none kV8 dc8 pm8 an8 cd8 ct8,
    f_Roster_init := fun_mk (st := s_Roster_init) l8 c8 k8,
    b_Roster_init := (fun_mk (st := s_Roster_init) l8 c8 k8).binds (ps := p_Roster_init) fun _ _ _ _ _ _ us hl => match us, hl with | [_, _, _], _ => rfl,
    a_Roster_eq := f9,
    d_Roster_eq := PySem.W.fnOf "__eq__" "Roster.__eq__" (defArgs s_Roster_eq) (defBody s_Roster_eq) (defScope s_Roster_eq) .none kV9 dc9 pm9 an9 cd9 ct9,
    f_Roster_eq := fun_mk (st := s_Roster_eq) l9 c9 k9,
    b_Roster_eq := (fun_mk (st := s_Roster_eq) l9 c9 k9).binds (ps := p_Roster_eq) fun _ _ _ _ _ _ us hl => match us, hl with | [_, _], _ => rfl,
    a_Roster_len := f10,
    d_Roster_len := PySem.W.fnOf "__len__" "Roster.__len__" (defArgs s_Roster_len) (defBody s_Roster_len) (defScope s_Roster_len) .none kV10 dc10 pm10 an10 cd10 ct10,
    f_Roster_len := fun_mk (st := s_Roster_len) l10 c10 k10,
    b_Roster_len := (fun_mk (st := s_Roster_len) l10 c10 k10).binds (ps := p_Roster_len) fun _ _ _ _ _ _ us hl => match us, hl with | [_], _ => rfl,
    a_Roster_workers := f11,
    d_Roster_workers := PySem.W.fnOf "workers" "Roster.workers" (defArgs s_Roster_workers) (defBody s_Roster_workers) (defScope s_Roster_workers) .none kV11 dc11 pm11 an11 cd11 ct11,
    f_Roster_workers := fun_mk (st := s_Roster_workers) l11 c11 k11,
    b_Roster_workers := (fun_mk (st := s_Roster_workers) l11 c11 k11).binds (ps := p_Roster_workers) fun _ _ _ _ _ _ us hl => match us, hl with | [_], _ => rfl,
    a_Roster_desks := f12,
    d_Roster_desks := PySem.W.fnOf "desks" "Roster.desks" (defArgs s_Roster_desks) (defBody s_Roster_desks) (defScope s_Roster_desks) .none kV12 dc12 pm12 an12 cd12 ct12,
    f_Roster_desks := fun_mk (st := s_Roster_desks) l12 c12 k12,
    b_Roster_desks := (fun_mk (st := s_Roster_desks) l12 c12 k12).binds (ps := p_Roster_desks) fun _ _ _ _ _ _ us hl => match us, hl with | [_], _ => rfl,
    a_Roster_crew := f13,
    d_Roster_crew := PySem.W.fnOf "crew" "Roster.crew" (defArgs s_Roster_crew) (defBody s_Roster_crew) (defScope s_Roster_crew) .none kV13 dc13 pm13 an13 cd13 ct13,
    f_Roster_crew := fun_mk (st := s_Roster_crew) l13 c13 k13,
    b_Roster_crew := (fun_mk (st := s_Roster_crew) l13 c13 k13).binds (ps := p_Roster_crew) fun _ _ _ _ _ _ us hl => match us, hl with | [_, _], _ => rfl,
    a_law_bag := f14,
    d_law_bag := PySem.W.fnOf "_law_bag" "_law_bag" (defArgs s_law_bag) (defBody s_law_bag) (defScope s_law_bag) .none kV14 dc14 pm14 an14 cd14 ct14,
    f_law_bag := fun_mk (st := s_law_bag) l14 c14 k14,
    b_law_bag := (fun_mk (st := s_law_bag) l14 c14 k14).binds (ps := p_law_bag) fun _ _ _ _ _ _ us hl => match us, hl with | [_], _ => rfl,
    g_law_bag := PySem.W.mg_of X G g14,
    k_law_bag := k14,
    a_law_take := f15,
    d_law_take := PySem.W.fnOf "_law_take" "_law_take" (defArgs s_law_take) (defBody s_law_take) (defScope s_law_take) .none kV15 dc15 pm15 an15 cd15 ct15,
    f_law_take := fun_mk (st := s_law_take) l15 c15 k15,
    b_law_take := (fun_mk (st := s_law_take) l15 c15 k15).binds (ps := p_law_take) fun _ _ _ _ _ _ us hl => match us, hl with | [_, _], _ => rfl,
    g_law_take := PySem.W.mg_of X G g15,
    k_law_take := k15,
    a_law_alike := f16,
    d_law_alike := PySem.W.fnOf "_law_alike" "_law_alike" (defArgs s_law_alike) (defBody s_law_alike) (defScope s_law_alike) .none kV16 dc16 pm16 an16 cd16 ct16,
    f_law_alike := fun_mk (st := s_law_alike) l16 c16 k16,
    b_law_alike := (fun_mk (st := s_law_alike) l16 c16 k16).binds (ps := p_law_alike) fun _ _ _ _ _ _ us hl => match us, hl with | [_, _], _ => rfl,
    g_law_alike := PySem.W.mg_of X G g16,
    k_law_alike := k16,
    a_law_names := f17,
    d_law_names := PySem.W.fnOf "_law_names" "_law_names" (defArgs s_law_names) (defBody s_law_names) (defScope s_law_names) .none kV17 dc17 pm17 an17 cd17 ct17,
    f_law_names := fun_mk (st := s_law_names) l17 c17 k17,
    b_law_names := (fun_mk (st := s_law_names) l17 c17 k17).binds (ps := p_law_names) fun _ _ _ _ _ _ us hl => match us, hl with | [_, _], _ => rfl,
    g_law_names := PySem.W.mg_of X G g17,
    k_law_names := k17,
    a_law_mixed := f18,
    d_law_mixed := PySem.W.fnOf "_law_mixed" "_law_mixed" (defArgs s_law_mixed) (defBody s_law_mixed) (defScope s_law_mixed) .none kV18 dc18 pm18 an18 cd18 ct18,
    f_law_mixed := fun_mk (st := s_law_mixed) l18 c18 k18,
    b_law_mixed := (fun_mk (st := s_law_mixed) l18 c18 k18).binds (ps := p_law_mixed) fun _ _ _ _ _ _ us hl => match us, hl with | [_, _], _ => rfl,
    g_law_mixed := PySem.W.mg_of X G g18,
    k_law_mixed := k18,
    a_law_crew := f19,
    d_law_crew := PySem.W.fnOf "_law_crew" "_law_crew" (defArgs s_law_crew) (defBody s_law_crew) (defScope s_law_crew) .none kV19 dc19 pm19 an19 cd19 ct19,
    f_law_crew := fun_mk (st := s_law_crew) l19 c19 k19,
    b_law_crew := (fun_mk (st := s_law_crew) l19 c19 k19).binds (ps := p_law_crew) fun _ _ _ _ _ _ us hl => match us, hl with | [_, _, _], _ => rfl,
    g_law_crew := PySem.W.mg_of X G g19,
    k_law_crew := k19,
    a_law_parts := f20,
    d_law_parts := PySem.W.fnOf "_law_parts" "_law_parts" (defArgs s_law_parts) (defBody s_law_parts) (defScope s_law_parts) .none kV20 dc20 pm20 an20 cd20 ct20,
    f_law_parts := fun_mk (st := s_law_parts) l20 c20 k20,
    b_law_parts := (fun_mk (st := s_law_parts) l20 c20 k20).binds (ps := p_law_parts) fun _ _ _ _ _ _ us hl => match us, hl with | [_, _, _], _ => rfl,
    g_law_parts := PySem.W.mg_of X G g20,
    k_law_parts := k20,
    a_law_roster := f21,
    d_law_roster := PySem.W.fnOf "_law_roster" "_law_roster" (defArgs s_law_roster) (defBody s_law_roster) (defScope s_law_roster) .none kV21 dc21 pm21 an21 cd21 ct21,
    f_law_roster := fun_mk (st := s_law_roster) l21 c21 k21,
    b_law_roster := (fun_mk (st := s_law_roster) l21 c21 k21).binds (ps := p_law_roster) fun _ _ _ _ _ _ us hl => match us, hl with | [_], _ => rfl,
    g_law_roster := PySem.W.mg_of X G g21,
    k_law_roster := k21,
    a_law_order := f22,
    d_law_order := PySem.W.fnOf "_law_order" "_law_order" (defArgs s_law_order) (defBody s_law_order) (defScope s_law_order) .none kV22 dc22 pm22 an22 cd22 ct22,
    f_law_order := fun_mk (st := s_law_order) l22 c22 k22,
    b_law_order := (fun_mk (st := s_law_order) l22 c22 k22).binds (ps := p_law_order) fun _ _ _ _ _ _ us hl => match us, hl with | [_, _, _], _ => rfl,
    g_law_order := PySem.W.mg_of X G g22,
    k_law_order := k22,
    a_law_parting := f23,
    d_law_parting := PySem.W.fnOf "_law_parting" "_law_parting" (defArgs s_law_parting) (defBody s_law_parting) (defScope s_law_parting) .none kV23 dc23 pm23 an23 cd23 ct23,
    f_law_parting := fun_mk (st := s_law_parting) l23 c23 k23,
    b_law_parting := (fun_mk (st := s_law_parting) l23 c23 k23).binds (ps := p_law_parting) fun _ _ _ _ _ _ us hl => match us, hl with | [_, _, _, _], _ => rfl,
    g_law_parting := PySem.W.mg_of X G g23,
    k_law_parting := k23,
    a_law_near_line := f24,
    d_law_near_line := PySem.W.fnOf "_law_near_line" "_law_near_line" (defArgs s_law_near_line) (defBody s_law_near_line) (defScope s_law_near_line) .none kV24 dc24 pm24 an24 cd24 ct24,
    f_law_near_line := fun_mk (st := s_law_near_line) l24 c24 k24,
    b_law_near_line := (fun_mk (st := s_law_near_line) l24 c24 k24).binds (ps := p_law_near_line) fun _ _ _ _ _ _ us hl => match us, hl with | [_, _], _ => rfl,
    g_law_near_line := PySem.W.mg_of X G g24,
    k_law_near_line := k24,
    a_law_same := f25,
    d_law_same := PySem.W.fnOf "_law_same" "_law_same" (defArgs s_law_same) (defBody s_law_same) (defScope s_law_same) .none kV25 dc25 pm25 an25 cd25 ct25,
    f_law_same := fun_mk (st := s_law_same) l25 c25 k25,
    b_law_same := (fun_mk (st := s_law_same) l25 c25 k25).binds (ps := p_law_same) fun _ _ _ _ _ _ us hl => match us, hl with | [_, _, _, _, _], _ => rfl,
    g_law_same := PySem.W.mg_of X G g25,
    k_law_same := k25,
    a_law := f26,
    d_law := PySem.W.fnOf "law" "law" (defArgs s_law) (defBody s_law) (defScope s_law) .none kV26 dc26 pm26 an26 cd26 ct26,
    f_law := fun_mk (st := s_law) l26 c26 k26,
    b_law := (fun_mk (st := s_law) l26 c26 k26).binds (ps := p_law) fun _ _ _ _ _ _ us hl => match us, hl with | [_], _ => rfl,
    g_law := PySem.W.mg_of X G g26,
    k_law := k26,
    c_Roster := C_Roster,
    gc_Roster := PySem.W.mg_of X G gC_Roster,
    cl_Roster := ⟨pg_Roster, hd_Roster, po_Roster, sa_Roster⟩,
    nf_Roster__workers := nf_Roster__workers,
    nf_Roster__crews := nf_Roster__crews,
    mk_Roster := ⟨mk_Roster, fi8, if8, kc_Roster⟩,
    m_Roster_eq := ⟨fi9, if9, k9⟩,
    m_Roster_len := ⟨fi10, if10, k10⟩,
    m_Roster_workers := ⟨fi11, if11, k11⟩,
    m_Roster_desks := ⟨fi12, if12, k12⟩,
    m_Roster_crew := ⟨fi13, if13, k13⟩,
    z_ValueError := PySem.W.mg_none_of X G z_ValueError,
    z_abs := PySem.W.mg_none_of X G z_abs,
    z_all := PySem.W.mg_none_of X G z_all,
    z_dict := PySem.W.mg_none_of X G z_dict,
    z_enumerate := PySem.W.mg_none_of X G z_enumerate,
    z_int := PySem.W.mg_none_of X G z_int,
    z_isinstance := PySem.W.mg_none_of X G z_isinstance,
    z_len := PySem.W.mg_none_of X G z_len,
    z_list := PySem.W.mg_none_of X G z_list,
    z_max := PySem.W.mg_none_of X G z_max,
    z_min := PySem.W.mg_none_of X G z_min,
    z_range := PySem.W.mg_none_of X G z_range,
    z_repr := PySem.W.mg_none_of X G z_repr,
    z_set := PySem.W.mg_none_of X G z_set,
    z_sorted := PySem.W.mg_none_of X G z_sorted,
    z_str := PySem.W.mg_none_of X G z_str,
    z_tuple := PySem.W.mg_none_of X G z_tuple,
    z_zip := PySem.W.mg_none_of X G z_zip,
    gk_LETTERS := ⟨t_LETTERS, PySem.W.mg_of X G gk_LETTERS⟩,
    gk_LONGEST_NAME := ⟨t_LONGEST_NAME, PySem.W.mg_of X G gk_LONGEST_NAME⟩,
    gk_MOST_WORKERS := ⟨t_MOST_WORKERS, PySem.W.mg_of X G gk_MOST_WORKERS⟩,
    gk_MOST_DESKS := ⟨t_MOST_DESKS, PySem.W.mg_of X G gk_MOST_DESKS⟩ }
  exact ⟨T.d_law, fun s v => .of_eq rfl, fun base _ _ => ok_law T⟩
end My

open PySem PySem.W PyProof.Rows L2 Dk in
set_option maxRecDepth 100000 in
set_option maxHeartbeats 0 in
theorem PySem.Challenge.cw_deskkeepers_k63_whole_great_comparisons_holds : PySem.Challenge.rw_deskkeepers_k63_whole_great_comparisons.Holds := by
  w_on; o_law; k_head; (case hw => w_witness2)
  k_fill
  refine Dk.walk_ofG (l := PySem.Challenge.rw_deskkeepers_k63_whole_great_comparisons) (n := 63) (k := 8) (x := "script") (CX := fun _ => CX0) (sp := fun w => My.sp _) rfl (by decide) rfl ⟨rfl, by decide, by decide⟩ (fun w h Y => PySem.W.kIn_of Y) ?F (fun w H a ns hl hS hO => My.sp_start hl hS hO) (fun _ _ _ _ _ z => z)
  case F =>
    intro w mg fa h KX G hmg
    refine' My.all_mk KX G hmg ?g1 ?l1 ?c1 ?k1 ?g2 ?l2 ?c2 ?k2 ?g3 ?l3 ?c3 ?k3 ?g4 ?l4 ?c4 ?k4 ?g5 ?l5 ?c5 ?k5 ?g6 ?l6 ?c6 ?k6 ?g7 ?l7 ?c7 ?k7 ?l8 ?c8 ?k8 ?l9 ?c9 ?k9 ?l10 ?c10 ?k10 ?l11 ?c11 ?k11 ?l12 ?c12 ?k12 ?l13 ?c13 ?k13 ?g14 ?l14 ?c14 ?k14 ?g15 ?l15 ?c15 ?k15 ?g16 ?l16 ?c16 ?k16 ?g17 ?l17 ?c17 ?k17 ?g18 ?l18 ?c18 ?k18 ?g19 ?l19 ?c19 ?k19 ?g20 ?l20 ?c20 ?k20 ?g21 ?l21 ?c21 ?k21 ?g22 ?l22 ?c22 ?k22 ?g23 ?l23 ?c23 ?k23 ?g24 ?l24 ?c24 ?k24 ?g25 ?l25 ?c25 ?k25 ?g26 ?l26 ?c26 ?k26 ?gC_Roster ?pg_Roster ?hd_Roster ?po_Roster ?sa_Roster ?mk_Roster ?kc_Roster ?nf_Roster__workers ?nf_Roster__crews ?fi8 ?if8 ?fi9 ?if9 ?fi10 ?if10 ?fi11 ?if11 ?fi12 ?if12 ?fi13 ?if13 ?z_ValueError ?z_abs ?z_all ?z_dict ?z_enumerate ?z_int ?z_isinstance ?z_len ?z_list ?z_max ?z_min ?z_range ?z_repr ?z_set ?z_sorted ?z_str ?z_tuple ?z_zip ?gk_LETTERS ?gk_LONGEST_NAME ?gk_MOST_WORKERS ?gk_MOST_DESKS
    (case gC_Roster => k_is)
    (case fi8 => k_is)
    (case fi9 => k_is)
    (case fi10 => k_is)
    (case fi11 => k_is)
    (case fi12 => k_is)
    (case fi13 => k_is)
    (case g1 => k_is)
    (case l1 => k_is)
    (case c1 => k_is)
    (case k1 => k_is)
    (case g2 => k_is)
    (case l2 => k_is)
    (case c2 => k_is)
    (case k2 => k_is)
    (case g3 => k_is)
    (case l3 => k_is)
    (case c3 => k_is)
    (case k3 => k_is)
    (case g4 => k_is)
    (case l4 => k_is)
    (case c4 => k_is)
    (case k4 => k_is)
    (case g5 => k_is)
    (case l5 => k_is)
    (case c5 => k_is)
    (case k5 => k_is)
    (case g6 => k_is)
    (case l6 => k_is)
    (case c6 => k_is)
    (case k6 => k_is)
    (case g7 => k_is)
    (case l7 => k_is)
    (case c7 => k_is)
    (case k7 => k_is)
    (case l8 => k_is)
    (case c8 => k_is)
    (case k8 => k_is)
    (case l9 => k_is)
    (case c9 => k_is)
    (case k9 => k_is)
    (case l10 => k_is)
    (case c10 => k_is)
    (case k10 => k_is)
    (case l11 => k_is)
    (case c11 => k_is)
    (case k11 => k_is)
    (case l12 => k_is)
    (case c12 => k_is)
    (case k12 => k_is)
    (case l13 => k_is)
    (case c13 => k_is)
    (case k13 => k_is)
    (case g14 => k_is)
    (case l14 => k_is)
    (case c14 => k_is)
    (case k14 => k_is)
    (case g15 => k_is)
    (case l15 => k_is)
    (case c15 => k_is)
    (case k15 => k_is)
    (case g16 => k_is)
    (case l16 => k_is)
    (case c16 => k_is)
    (case k16 => k_is)
    (case g17 => k_is)
    (case l17 => k_is)
    (case c17 => k_is)
    (case k17 => k_is)
    (case g18 => k_is)
    (case l18 => k_is)
    (case c18 => k_is)
    (case k18 => k_is)
    (case g19 => k_is)
    (case l19 => k_is)
    (case c19 => k_is)
    (case k19 => k_is)
    (case g20 => k_is)
    (case l20 => k_is)
    (case c20 => k_is)
    (case k20 => k_is)
    (case g21 => k_is)
    (case l21 => k_is)
    (case c21 => k_is)
    (case k21 => k_is)
    (case g22 => k_is)
    (case l22 => k_is)
    (case c22 => k_is)
    (case k22 => k_is)
    (case g23 => k_is)
    (case l23 => k_is)
    (case c23 => k_is)
    (case k23 => k_is)
    (case g24 => k_is)
    (case l24 => k_is)
    (case c24 => k_is)
    (case k24 => k_is)
    (case g25 => k_is)
    (case l25 => k_is)
    (case c25 => k_is)
    (case k25 => k_is)
    (case g26 => k_is)
    (case l26 => k_is)
    (case c26 => k_is)
    (case k26 => k_is)
    (case pg_Roster => k_is)
    (case hd_Roster => k_is)
    (case po_Roster => k_is)
    (case sa_Roster => k_is)
    (case mk_Roster => k_is)
    (case kc_Roster => k_is)
    (case nf_Roster__workers => k_is)
    (case nf_Roster__crews => k_is)
    (case if8 => k_is)
    (case if9 => k_is)
    (case if10 => k_is)
    (case if11 => k_is)
    (case if12 => k_is)
    (case if13 => k_is)
    (case z_ValueError => k_is)
    (case z_abs => k_is)
    (case z_all => k_is)
    (case z_dict => k_is)
    (case z_enumerate => k_is)
    (case z_int => k_is)
    (case z_isinstance => k_is)
    (case z_len => k_is)
    (case z_list => k_is)
    (case z_max => k_is)
    (case z_min => k_is)
    (case z_range => k_is)
    (case z_repr => k_is)
    (case z_set => k_is)
    (case z_sorted => k_is)
    (case z_str => k_is)
    (case z_tuple => k_is)
    (case z_zip => k_is)
    (case gk_LETTERS => k_is)
    (case gk_LONGEST_NAME => k_is)
    (case gk_MOST_WORKERS => k_is)
    (case gk_MOST_DESKS => k_is)

