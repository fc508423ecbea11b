import PyProof.Rows.All
import Wide.All
import OpenK.AllK
import Wide.FinOn
import KE.KStateDown
import Lean
import HandS.ForMost
import HandS.WordsExc
import HandS.Defaults
import HandS.Head0
import HandS.Head1
import HandS.Head2
import HandS.HeadEnd
import HandS.HeadHook1
import HandS.HeadHook2
import HandS.ExcInit
import HandS.ExcValue
import HandS.IsInst
import KE.KExcInit
import KE.KExcIs
import PyProof.ReprLen
import PyProof.P3Eq
import PySem.Challenge.RW_savedback_k00_errors_made_by_hand
set_option Elab.async false
set_option linter.all false
set_option maxRecDepth 100000
set_option maxHeartbeats 4000000
namespace Sb
open PySem PySem.Spec PyProof.Rows L2

/-! ### defs that run while no repr runs -/
structure FnG (P : Program) (w : World) (K : PySem.W.Frag) (mg : Str → Option Value) (base : Heap) (CX : CXT) (k : Nat) (f : Addr) (fd : FuncData) (ps : List Str) (sp : Sp) : Prop where
  ln : ∀ vs H Q E, sp vs H Q E → vs.length = ps.length
  go : ∀ (A : Around) (outer : List Env) (s : Shared) (H : Hp) (args : Args) (us : List Value) (vs : List V) (Q : VK) (E : XK), A.guards = some [] → Room k A → Env0 P w K mg base A outer s H →
    BindsTo s fd args (ps.zip us) → Vals vs us → sp vs H Q E → codeAny (model P w) A (.call (.ref f) args) (CR CX outer P w H s Q E) s
theorem FnG.of {P : Program} {w : World} {K : PySem.W.Frag} {mg : Str → Option Value} {base : Heap} {CX : CXT} {k : Nat} {f : Addr} {fd : FuncData} {ps : List Str} {sp : Sp} (F : FnOk P w K mg base CX k f fd ps sp) : FnG P w K mg base CX k f fd ps sp :=
  ⟨F.len, fun A outer s H args us vs Q E _ => F.run A outer s H args us vs Q E⟩
section
variable {P : Program} {w : World} {K : PySem.W.Frag} {mg : Str → Option Value} {base : Heap}
/-- a def by its body, run while no repr runs -/
theorem okG {x qual : Str} {st : Stmt} {f : Addr} {fd : FuncData} {N ps : List Str} {k : Nat} {sp : Sp} (F : Fun K x qual st f fd) (S : FnScope N ps (defScope st)) (len : ∀ vs H Q E, sp vs H Q E → vs.length = ps.length)
    (hbody : ∀ (cdv : Value) (A : Around) (outer : List Env) (s : Shared) (H : Hp) (vs : List V) (Q : VK) (E : XK), (A.deeper (envOfC qual (defScope st) s.heap.objs.size f cdv)).guards = some [] →
      Room k (A.deeper (envOfC qual (defScope st) s.heap.objs.size f cdv)) → sp vs H Q E →
      ∃ t, PSs (cxOf CX0 P w K mg base N qual (defScope st) f cdv A outer s H E).nox (defBody st) t ∧ t { nx := fun _ H' => Q .non H', rt := Q } (start N vs) H) : FnG P w K mg base CX0 (k + 1) f fd ps sp := by
  obtain ⟨oc, od, kV, doc, pm, an, cdv, ct, osl, rfl, lk, hcd⟩ := F.ex
  refine ⟨len, fun A outer s H args us vs Q E hgd hr e0 hb r hsp => ?_⟩
  have hl := len _ _ _ _ hsp
  have KX : K.In s.heap := e0.mod.kin.keeps fun b o e => (e0.bs b o e).1
  have hkind : ∀ y ∈ ps.zip us, (defScope st).names.lookup y.1 = some .local ∨ ((defScope st).names.lookup y.1 = some .cell ∧ ((cellsFrom (s.heap.objs.size + 1) (defScope st).names []).lookup y.1).isSome = true) := by
    rintro ⟨n, v⟩ hy
    rcases S.par n (List.of_mem_zip hy).1 with q | q
    · exact .inl q
    · exact .inr ⟨q, PySem.W.cellsFrom_some _ _ _ (.inl q)⟩
  refine codeAny_call_function hr.depth (KX _ _ lk) rfl S.co S.gen rfl (PySem.W.codeRec_of KX hcd) (hb _ _ _ _ (wpAny_newFunctionEnv_cells S.kind hkind fun env he s1 x => ?_))
  subst he
  have lim : s.heap.NoLimit := e0.mod.nolimit.keeps fun b o e => (e0.bs b o e).1
  refine ⟨lim.keeps x.toInCall.keep, codeAny_func ?_⟩
  obtain ⟨t, ht0, hq⟩ := hbody cdv A outer s H vs Q E hgd (hr.deeper _) hsp
  have ht := ht0.nox
  have I := inv_start (CX := CX0) (K := K) (mg := mg) (base := base) (E := E) (f := f) (cd := cdv) (qual := qual) (outer := outer) S hr.hd e0 hl r x
  refine wpAny_mono (ht.run [] s1 (start N vs) H _ I hq) (fun fl s' hs => ?_) fun e s' hs => hs
  have fin : ∀ {σ' : L2.St} {H' : Hp} {v : V} {u : Value}, Inv (cxOf CX0 P w K mg base N qual (defScope st) f cdv A outer s H E) [] σ' H' s' → RelV v u → Q v H' → CE outer P w H s Q u s' := by
    intro σ' H' v u J rv q
    exact ⟨v, H', J.os, J.bare, J.base, J.hok, rv, q⟩
  rcases fl with _ | _ | _ | u
  all_goals first
    | (obtain ⟨v, σ', H', J, rv, q⟩ := hs; exact fin J rv q)
    | (obtain ⟨σ', H', J, q⟩ := hs; exact fin (v := V.non) (u := Value.none) J rfl q)
    | (obtain ⟨_, _, _, q⟩ := hs; exact False.elim q)
end
section
variable {X : Cx} {CX : CXT} {k : Nat} {f : Addr} {fd : FuncData} {ps : List Str} {sp : Sp} {dvs : List V} {ds : List Value} {E : XK} {x : Str} {p pos : Pos} {e : Expr} {es : List Expr} {t : TA}
/-- f(e, ..) of such a def -/
theorem pe_callG (hgd : X.A.guards = some []) (F : FnG X.prog X.w X.K X.mg X.base CX k f fd ps sp) (hr : Room k X.A) (hg : Gl X x) (hm : X.mg x = some (.ref f)) (hk : PySem.W.keepIn X.K (.ref f) = true) (hb : Binds X.K fd ps ds) (hd : Vals dvs ds) (hx : Passes CX X E)
    (ha : PA X (e :: es) t) (hdb : (x == ("__debug__" : Str)) = false := by decide) (he : starEach (e :: es) X.env = (false, eval e X.env) :: starEach es X.env := by rfl) (hpl : (backTo pos (starEach es X.env)).any (·.1) = false := by rfl) :
    PE X (.Call (.Name x p) (e :: es) [] pos) (tCall sp dvs E t) := by
  refine ⟨fun pins s σ H Q I h => wpAny_Call_Name_kw (ld_glob I hg hm ?_ hdb)⟩
  refine PySem.W.callWith_K (h₀ := X.base) I.ok.mod.kin hk (thn (ha.run pos pins s σ H _ I h) fun us s1 ⟨vs, H1, I1, r, q⟩ => ⟨I1.kIn, ?_⟩) he hpl
  have r2 : Vals (vs ++ dvs) (us ++ ds) := r.append hd
  have hl : (us ++ ds).length = ps.length := r2.length.symm.trans (F.ln _ _ _ _ q)
  refine wpAny_call (codeAny_mono (F.go X.A X.stack s1 H1 ⟨us, []⟩ (us ++ ds) (vs ++ dvs) Q E hgd hr I1.env0 (hb s1 us I1.kIn hl) r2 q) fun r s' hq => ?_)
  rcases r with e | (_ | _ | _ | u)
  all_goals first
    | exact hx pins σ H1 s1 e s' I1 hq
    | exact I1.after hq
    | exact False.elim hq
end
/-- the law's own call -/
theorem lawG {P : Program} {w : World} {K : PySem.W.Frag} {mg mb : Str → Option Value} {CX : CXT} {k : Nat} {fa a : Addr} {fd : FuncData} {x : Str} {sp : Sp} {s₁ : Shared} {vs : List Value} {ns : List Int}
    (KX : K.In s₁.heap) (hns : s₁.heap.Ns mainGlobals mg) (hb : s₁.heap.Ns builtinsNs mb) (hbb : ∀ x : Str, x ≠ "__name__" → mb x = bootBuiltins x) (hlim : s₁.heap.NoLimit) (hg : s₁.gens = #[])
    (ha : s₁.heap.get? a = some { cls := .type "list", data := .seq vs.toArray }) (hi : IntsAre vs ns) (hl : ns.length ≤ sizeLine) (hr : Room k callerA)
    (F : ∀ base : Heap, K.In base → base.Ns mainGlobals mg → FnG P w K mg base CX k fa fd [x] sp) (hbind : ∀ (s : Shared) (u : Value), BindsTo s fd ⟨[u], []⟩ [(x, u)])
    (hsp : ∀ H : Hp, Only H → SqL K H a (ns.map V.int) → sp [.ref a] H (fun v _ => v = .bl true) fun _ _ _ => False)
    (hCX : ∀ H e s', CX [] H s₁ (fun _ _ _ => False) e s' → False) :
    codeAny (model P w) callerA (.call (.ref fa) ⟨[.ref a], []⟩) (fun r s' => r = .ok (.ret (.bool true)) ∧ OldK s₁.heap s'.heap ∧ s'.os = s₁.os ∧ AllBare s'.gens) s₁ := by
  let sp' : Sp := fun vs H Q E => vs = [.ref a] ∧ sp vs H Q E
  have rv := vals_ints hi
  have lenV := hi.length
  have core : ∀ H : Hp, Only H → SqL K H a (ns.map V.int) → HOk P w H s₁.heap → (∀ b, H b ≠ none → b = a) → (H a ≠ none → K.lookup a = none) →
      codeAny (model P w) callerA (.call (.ref fa) ⟨[.ref a], []⟩) (fun r s' => r = .ok (.ret (.bool true)) ∧ OldK s₁.heap s'.heap ∧ s'.os = s₁.os ∧ AllBare s'.gens) s₁ := by
    intro H hO hS hok hA hK
    have inBase : ∀ {b : Addr} {o : Obj}, s₁.heap.get? b = some o → H b = none → (hidT s₁.heap H).get? b = some o := fun e n => hidT_get e n
    have noDict : ∀ {b : Addr} {o : Obj} {es : Array DictEntry} {ep : Nat}, s₁.heap.get? b = some o → o.data = .dict es ep → H b = none := by
      intro b o es ep e d
      cases q : H b with
      | none => rfl
      | some u =>
        obtain rfl : b = a := hA b (by rw [q]; simp)
        rw [ha] at e
        cases e
        have d' : Data.seq vs.toArray _ = Data.dict es ep := d
        cases d'
    have nsK : ∀ {b : Addr} {m : Str → Option Value}, s₁.heap.Ns b m → (hidT s₁.heap H).Ns b m := by
      rintro b m ⟨o, es, ep, e, d, r⟩
      exact ⟨o, es, ep, inBase e (noDict e d), d, r⟩
    have hKb : K.In (hidT s₁.heap H) := by
      intro b o e
      refine inBase (KX b o e) ?_
      cases q : H b with
      | none => rfl
      | some u =>
        obtain rfl : b = a := hA b (by rw [q]; simp)
        rw [hK (by rw [q]; simp)] at e
        cases e
    have hM : Mod K mg (hidT s₁.heap H) := ⟨hKb, nsK hns, ⟨mb, nsK hb, hbb⟩, by obtain ⟨mc, h1, h2⟩ := hlim; exact ⟨mc, nsK h1, h2⟩⟩
    have e0 : Env0 P w K mg (hidT s₁.heap H) callerA [] s₁ H := ⟨rfl, hM, fun b o e => of_hidT e, Nat.le_of_eq (hidT_size _ _), trivial, fun b hb => (by cases hb), hok, AllBare.of_eq hg⟩
    refine codeAny_mono ((F _ hKb (nsK hns)).go callerA [] s₁ H ⟨[.ref a], []⟩ [.ref a] [.ref a] _ _ rfl hr e0 (hbind s₁ (.ref a)) (.cons rfl .nil) (hsp H hO hS)) fun r s' h => ?_
    rcases r with e | (_ | _ | _ | u)
    case error => exact (hCX H e s' h).elim
    all_goals first
      | exact False.elim h
      | skip
    obtain ⟨v, H', os, bare, un, hok', r', q⟩ := h
    obtain rfl : v = .bl true := q
    obtain rfl : u = Value.bool true := r'
    refine ⟨rfl, OldK.of_keep fun b o e => ?_, os, bare⟩
    cases q : H b with
    | none => exact un.keep b o e q (by intro z; cases z) (by simp)
    | some u =>
      rcases hO b with z | ⟨ob, xs, z⟩
      · rw [q] at z
        cases z
      · obtain ⟨e1, _⟩ := hok b _ z
        obtain ⟨e2, _⟩ := hok' b _ (un.frzs b ob _ z)
        rw [e] at e1
        cases e1
        exact e2
  cases hk : K.lookup a with
  | some o =>
    have e := KX a o hk
    rw [ha] at e
    cases e
    refine core (fun _ => none) (fun _ => .inl rfl) (.inr ⟨_, vs.toArray, _, hk, rfl, rfl, rfl, by rw [List.size_toArray, lenV]; exact hl, by simpa using rv⟩) (fun b u z => ?_) (fun b z => absurd rfl z) fun z => absurd rfl z
    have z' : (none : Option HO) = some u := z
    cases z'
  | none =>
    refine core (fun b => if b = a then some (.frz { cls := .type "list", data := .seq vs.toArray } (.lst (ns.map V.int))) else none) (fun b => ?_) (.inl (.inr ⟨{ cls := .type "list", data := .seq vs.toArray }, if_pos rfl⟩)) (fun b u z => ?_) (fun b z => ?_) fun _ => hk
    · by_cases hb : b = a
      · exact .inr ⟨_, _, if_pos hb⟩
      · exact .inl (if_neg hb)
    · by_cases hb : b = a
      · have z' := (if_pos hb).symm.trans z
        cases z'
        subst hb
        exact ⟨ha, by rw [List.length_map]; exact hl, vs, _, rv, ha⟩
      · have z' := (if_neg hb).symm.trans z
        cases z'
    · by_cases hb : b = a
      · exact hb
      · exact absurd (if_neg hb) z
theorem walkG {l : PySem.W.OpenLaw} {n k : Nat} {q : Program} {loose : List Str} {XP : (Str → Option Value) → Heap → Prop} {YP : World → Heap → Prop} {d : DefRec} {CX : CXT} {x : Str}
    (hn : l.most = some n) (hn2 : n ≤ sizeLine) (hdf : d.params.defaults = []) (hr : Room k callerA)
    (F : ∀ (w : World) (mg : Str → Option Value) (fa : Addr) (h : Heap), YP w h → h.Ns mainGlobals mg → mg d.name = some (.ref fa) →
      ∃ (K : PySem.W.Frag) (fd : FuncData) (sp : Sp), K.In h ∧ (∀ (s : Shared) (u : Value), BindsTo s fd ⟨[u], []⟩ [(x, u)]) ∧
        (∀ (H : Hp) (a : Addr) (ns : List Int), ns.length ≤ n → Only H → SqL K H a (ns.map V.int) → sp [.ref a] H (fun v _ => v = .bl true) fun _ _ _ => False) ∧
        ∀ base : Heap, K.In base → base.Ns mainGlobals mg → FnG l.prog w K mg base CX k fa fd [x] sp)
    (hCX : ∀ (H : Hp) (s : Shared) (e : Value) (s' : Shared), CX [] H s (fun _ _ _ => False) e s' → False) :
    PySem.W.WalkO q loose XP YP l.row.toRowW d [] (fun f vs => PySem.call f vs) := by
  refine Att.attach_call hn hdf fun w s₀ s₁ mg mb fa o pm cd doc a vs ns G Y ho hd hcd hmg hobj hints hlen hg => ?_
  obtain ⟨K, fd, sp, KX, hb, hsp, hF⟩ := F w mg fa _ Y G.T.g hmg
  exact lawG KX G.T.g G.T.b G.T.builtins G.T.nolimit hg hobj hints (Nat.le_trans hlen hn2) hr hF hb (fun H hO hS => hsp H a ns hlen hO hS) fun H e s' => hCX H s₁ e s'

/-! ### repr of data -/
def rRepr (K : PySem.W.Frag) : List V → Hp → VK → Prop := fun xs H Q => ∃ (a : Addr) (d : PyData), xs = [.ref a] ∧ Dp K H (.ref a) d ∧ d.showable = true ∧ d.hasDict = false ∧ d.depth ≤ 60 ∧ d.shown.length ≤ sizeLine ∧ Q (.str d.shown) H
theorem call_repr {X : Cx} (hgd : X.A.guards = some []) (hu : X.A.units + 64 < cLine) : CallR X (.builtin "repr") (rRepr X.K) := by
  intro pins s σ H xs us Q I r h
  obtain ⟨a, d, rfl, hd, hs, hnd, hdp, hz, q⟩ := h
  cases r with
  | cons ra rn =>
    cases rn
    cases ra
    obtain ⟨as, hr⟩ := Dp.reads I d (.ref a) (.ref a) hd rfl
    refine repr_of_reads' hr hs (PyData.noDict_hsm hnd) hgd (by omega) (fun _ _ e => e) (fun h' u tk k => ?_) hz
    exact ⟨.str d.shown, H, I.kept k, ⟨u, rfl⟩, q⟩
/-- the list of m + 1 times the dict {x: i} -/
def rReprD : List V → Hp → VK → Prop := fun xs H Q => ∃ (a dd : Addr) (m : Nat) (x : Str) (i : Int), xs = [.ref a] ∧ H a = some (.lst (List.replicate (m + 1) (.ref dd))) ∧ H dd = some (.dK [(.inr x, .int i)]) ∧ i.natAbs.log2 < 1920 ∧ (reprText x).length ≤ 1000 ∧
  (listText (List.replicate (m + 1) (dictText [reprText x ++ ": " ++ toString i]))).length ≤ sizeLine ∧ Q (.str (listText (List.replicate (m + 1) (dictText [reprText x ++ ": " ++ toString i])))) H
theorem one_kv {k : Key} {i : Int} : ∀ {vs : List (Key × Value)}, KV [(k, V.int i)] vs → ∃ t, vs = [(k, Value.int i t)]
  | _, .cons (b := b) h hn => by
    cases hn
    obtain ⟨b1, b2⟩ := b
    obtain ⟨e1, t, e2⟩ := h
    dsimp only at e1 e2
    exact ⟨t, by rw [← e1, e2]⟩
theorem one_pr {P : Program} {w : World} {k : Key} {v : Value} : ∀ {el : List DictEntry}, Pairs (mixKind P w) el [(k, v)] → ∃ en, el = [en] ∧ keyIs k en.key = true ∧ en.val = v
  | _, .cons h1 h2 hn => by
    cases hn
    exact ⟨_, rfl, h1, h2⟩
theorem call_reprD {X : Cx} (hgd : X.A.guards = some []) (hu : X.A.units + 64 < cLine) : CallR X (.builtin "repr") rReprD := by
  intro pins s σ H xs us Q I r h
  obtain ⟨a, dd, m, x, i, rfl, ha, hd, hi, hx, hz, q⟩ := h
  cases r with
  | cons ra rn =>
    cases rn
    cases ra
    obtain ⟨_, its, n, rv, ho⟩ := I.hok a _ ha
    obtain ⟨_, hsys, vs, kv, o, es, ep, hod, hex, hdat, _, hp, _⟩ := I.hok dd _ hd
    have hne : a ≠ dd := ne_of ha hd (by intro z; cases z)
    obtain ⟨ti, rfl⟩ := one_kv kv
    obtain ⟨en, hel, hk, hv⟩ := one_pr hp
    obtain ⟨tk, hk⟩ := Value.isStrOf_shape (x := x) (v := en.key) hk
    have hrx : (reprText x).length ≤ sizeLine := Nat.le_trans hx (by rw [sizeLine_eq]; omega)
    have rk : ReprK X.prog X.w [] s.heap 0 en.key (reprText x) := by
      rw [hk]
      exact ReprK.of_is (ReprIs.str x tk hrx) _ _ _
    have rval : ReprK X.prog X.w [] s.heap 0 en.val (toString i) := by
      rw [hv]
      exact ReprK.of_is (ReprIs.int ti hi) _ _ _
    have rd : ReprK X.prog X.w [dd] s.heap 1 (.ref dd) (dictText [reprText x ++ ": " ++ toString i]) := by
      refine ReprK.dict hod hex.1 hdat hsys (by simp) ?_
      rw [hel]
      exact .cons rk rval .nil
    -- the items
    have hit : ∀ {ys : List V} {us : List Value}, Vals ys us → (∀ y ∈ ys, y = V.ref dd) → ∀ u ∈ us, u = Value.ref dd := by
      intro ys us r
      induction r with
      | nil => intro _ u hu; cases hu
      | cons h1 h2 ih =>
        intro hy u hu
        rcases List.mem_cons.mp hu with rfl | hu
        · have e := hy _ List.mem_cons_self
          subst e
          exact h1
        · exact ih (fun y z => hy y (List.mem_cons_of_mem _ z)) u hu
    have hall := hit rv (fun y hy => (List.mem_replicate.mp hy).2)
    have hlen : its.length = m + 1 := by
      rw [← rv.length, List.length_replicate]
    cases its with
    | nil => simp at hlen
    | cons x0 l =>
      have hcall : wpAny (model X.prog X.w) X.A.in1 (call (.builtin "list.__repr__") [.ref a]) (fun r s₁ => ∃ x t, r = Value.str x t ∧ EP X pins σ Q r s₁) X.xe s := by
        refine call_list_reprK (as := [dd]) (d := 1) ho rfl rfl (by simpa using hne) (ts := List.replicate (m + 1) (dictText [reprText x ++ ": " ++ toString i])) (by simp only [List.size_toArray, List.length_replicate, hlen]) (fun j y hj => ?_) hgd (fun b _ => Clear.nil b)
          (by show X.A.units + 1 + (1 + 1) < cLine; omega) (fun _ _ e => e) (fun h' u tk k => ⟨_, _, rfl, .str _, H, I.kept k, ⟨u, rfl⟩, q⟩) hz
        have hj' : (x0 :: l)[j]? = some y := by simpa using hj
        have hjl : j < m + 1 := by
          rw [← hlen]
          exact (List.getElem?_eq_some_iff.mp hj').1
        refine ⟨_, by rw [List.getElem?_replicate, if_pos hjl], ?_⟩
        rw [hall y (List.mem_of_getElem? hj')]
        exact rd
      exact call_repr_slot (by omega) ⟨_, ho, rfl⟩ F.slot_list_repr.toG hcall
end Sb
set_option maxHeartbeats 4000000
namespace Sb
open PySem PySem.Spec PyProof.Rows L2
open PySem.W (excInitIn excOver hasDictIn findIn subIn keepIn typeIn takerIn mroIn specialIn takesIn)

/-! ### exceptions of own classes, held as values -/
/-- what the written part says of an exception class of the program -/
structure XCls (K : PySem.W.Frag) (C : Addr) : Prop where
  ga : findIn K (.ref C) "__getattribute__" = some (some (.builtin "BaseException.__getattribute__"))
  gt : findIn K (.ref C) "__getattr__" = some none
  sb : subIn K (.ref C) (.type "BaseException") = some true
  hd : hasDictIn K C = true
  cl : findIn K (.ref C) "__class__" = some (some (.builtin "object.__class__"))
  ob : mroIn K C (.type "object") = some true
  kp : keepIn K (.ref C) = true
structure XIni (K : PySem.W.Frag) (C fI : Addr) (bm : List Value) (nw : String) (f : Str) : Prop extends XCls K C where
  ii : excInitIn K C bm nw = true
  ov : excOver K C bm = true
  sa : findIn K (.ref C) "__setattr__" = some (some (.builtin "object.__setattr__"))
  ft : takerIn K C f = some none
  fn : findIn K (.ref C) f = some none
  it : findIn K (.ref C) "__init__" = some (some (.ref fI))
  ty : typeIn K (.ref fI) = some (.type "function")

section
variable {prog : Program} {w : World} {A : Around} {R : Result → Shared → Prop} {hp : Heap} {g : Array GenState} {d : Drawn} {t : Nat} {os : OsState}
theorem own_store {K : PySem.W.Frag} {B : String} {bm : List Value} {name : Str} {tk : Tok} {v : Value} {x C t1 : Addr}
    (SF : StoreFacts B bm "object.__setattr__" "object") (X : K.In hp)
    (hx : hp.get? x = some { cls := .ref C, data := .fields #[.ref t1, .none, .none, .none, .bool false, .none] })
    (ho : excOver K C bm = true) (ht : takerIn K C name = some none) (hh : hasDictIn K C = true)
    (hq : ∀ h' tk' dx, (∀ b o, b ≠ x → hp.get? b = some o → h'.get? b = some o) → hp.objs.size ≤ dx → dx ≠ x →
      h'.get? x = some { cls := .ref C, dict := some dx, data := .fields #[.ref t1, .none, .none, .none, .bool false, .none] } →
      h'.Ns1 dx (fun y => if y = name then some v else none) → R (.ok (.ret .none)) ⟨h', g, d, tk', os⟩) :
    codeAny (model prog w) A (.call (.builtin "object.__setattr__") ⟨[.ref x, .str name tk, v], []⟩) R ⟨hp, g, d, t, os⟩ := by
  refine PySem.W.osa_openX (od := none) SF X ⟨hx, rfl, rfl, trivial⟩ ho ht fun b => ?_
  obtain ⟨cd, hc, hd'⟩ := PySem.W.any_some hh
  have hxs : x ≠ hp.objs.size := Nat.ne_of_lt (Heap.lt_size hx)
  refine wpAny_bind (wpAny_pure (wpAny_bind (PySem.W.instanceDict_exc hx (PySem.W.looks_clsIn X hc) hd' ?_)))
  show wpAny _ _ (Builtin.ObjectAttr.storeInDict hp.objs.size (.str name tk) name v) _ _ _
  refine PySem.HandSPX.store_in_new ?_ ?_
  · exact ⟨_, #[], _, (Heap.get?_update_ne _ _ _ _ hxs.symm).trans (Heap.get?_push_at rfl rfl), rfl, fun e he => absurd he (by simp), fun _ => rfl⟩
  · intro h' tk' hn' hs
    have hx₁ : (hp.push { cls := .type "dict", data := .dict #[] }).get? x = some { cls := .ref C, data := .fields #[.ref t1, .none, .none, .none, .bool false, .none] } := Heap.get?_push_of_some _ hx
    refine hq h' tk' hp.objs.size (fun b o hb ho => ?_) (Nat.le_refl _) hxs.symm ?_ hn'
    · exact (hs.2 b (Nat.ne_of_lt (Heap.lt_size ho))).trans ((Heap.get?_update_ne _ _ _ _ hb).trans (Heap.get?_push_of_some _ ho))
    · exact (hs.2 x hxs).trans (Heap.get?_update_self _ hx₁ rfl)
end

section
variable {X : Cx} {pins : List (Addr × Obj)} {σ : L2.St} {H : Hp} {s : Shared} {a C fI dx : Addr} {f : Str} {y : V} {u : Value} {Q : Unit → Shared → Prop} {E : Value → Shared → Prop} {A : Around} {bm : List Value} {nw B : String}
/-- self.f = y in the __init__ of such a class -/
theorem put_new (T : XIni X.K C fI bm nw f) (SF : StoreFacts B bm "object.__setattr__" "object") (I : Inv X pins σ H s) (e : H a = some (exo a C none)) (ry : RelV y u)
    (h : ∀ dx s', H dx = none → dx ≠ a → Inv X pins σ (upd (upd H dx (exd dx [(f, y)])) a (exo a C (some dx))) s' → Q () s') : wpAny (model X.prog X.w) A (setAttr (.ref a) f u) Q E s := by
  obtain ⟨t1, ho⟩ := exo_at I.hok e
  obtain ⟨hp, g, d, t, os⟩ := s
  refine PySem.W.set_plain I.kIn (ox := { cls := .ref C, dict := none, data := .fields #[.ref t1, .none, .none, .none, .bool false, .none] }) (od := none) ⟨ho, rfl, rfl, trivial⟩ T.sa ?_
  refine own_store SF I.kIn ho T.ov T.ft T.hd (fun h' tk' dx k dn dne hx hn => ?_)
  have hnd : H dx = none := I.hok.fresh dn
  have nd : ∀ {b : Addr} {o : Obj}, hp.get? b = some o → b ≠ dx := fun {b o} q => Nat.ne_of_lt (Nat.lt_of_lt_of_le (Heap.lt_size q) dn)
  have na : ∀ {b : Addr}, H b = none → b ≠ a := fun {b} n z => by
    rw [z, e] at n
    cases n
  have U : Un X.fs [] H (upd (upd H dx (exd dx [(f, y)])) a (exo a C (some dx))) hp h' := by
    refine ⟨fun b o q n _ _ => k b o (na n) q, fun b o q n _ _ => ⟨o.slots, k b o (na n) q⟩, fun b o q n _ => ?_, fun b o q _ => ?_, fun b xs q => ?_, fun b o v q => ?_, fun b ps q => ?_⟩
    · rw [upd_ne (na n), upd_ne (nd q)]
      exact n
    · by_cases hb : b = a
      · exact ⟨_, by rw [hb]; exact hx⟩
      · exact ⟨o, k b o hb q⟩
    · rw [upd_ne (at_ne e q exo_tup), upd_ne (ne_of_none q hnd)]
      exact q
    · rw [upd_ne (at_ne e q exo_frz), upd_ne (ne_of_none q hnd)]
      exact q
    · exact ⟨#[], by rw [upd_ne (at_ne e q exo_tbl), upd_ne (ne_of_none q hnd), q]; simp⟩
  refine h dx _ hnd dne (I.un (t' := tk') U fun b o q => ?_)
  by_cases hb : b = a
  · subst hb
    rw [upd_same] at q
    cases q
    exact exo_ok hx
  · rw [upd_ne hb] at q
    by_cases hd : b = dx
    · subst hd
      rw [upd_same] at q
      cases q
      exact exd_ok hn (relO_put (fs := []) ry fun g => True.intro)
    · rw [upd_ne hd] at q
      refine (I.hok b o q).stay (fun c v hc z => k c v ?_ z) (fun c hc => ?_) (fun c xs hc => ?_)
      · rcases hc with hc | hc
        · rw [hc]
          exact hb
        · exact at_ne e hc exo_own
      · rw [upd_ne (at_ne e hc exo_own), upd_ne (ne_of_none hc hnd)]
        exact hc
      · rw [upd_ne (at_ne e hc exo_tup), upd_ne (ne_of_none hc hnd)]
        exact hc
end
/-- the reading of «self.f = e» there -/
def tPut (C : Addr) (f : Str) (to te : TE) : TS := fun D σ H => te σ H fun y H1 => to σ H1 fun x H2 => ∃ a : Addr, x = .ref a ∧ H2 a = some (exo a C none) ∧
  ∀ dx, H2 dx = none → dx ≠ a → D.nx σ (upd (upd H2 dx (exd dx [(f, y)])) a (exo a C (some dx)))
/-- the reading of «C(e, ..)» -/
def tNew (C : Addr) (sp : Sp) (ta : TA) : TE := fun σ H Q => ta σ H fun vs H1 => vs.length ≤ 1000 ∧ ∀ a, H1 a = none → sp (.ref a :: vs) (upd H1 a (exo a C none))
  (fun v H2 => v = .non ∧ Q (.ref a) H2) (fun _ _ _ => False)
/-- what __init__ promises -/
def spIni (C : Addr) (f : Str) : Sp := fun vs H Q _ => ∃ (a : Addr) (y : V), vs = [.ref a, y] ∧ H a = some (exo a C none) ∧
  ∀ dx, H dx = none → dx ≠ a → Q .non (upd (upd H dx (exd dx [(f, y)])) a (exo a C (some dx)))
section
variable {X : Cx} {o e : Expr} {es : List Expr} {to te : TE} {ta : TA} {f x : Str} {p p' pos : Pos} {C fI : Addr} {bm : List Value} {nw B ni : String}
theorem ps_put (T : XIni X.K C fI bm nw f) (SF : StoreFacts B bm "object.__setattr__" "object") (ho : PE X o to) (he : PE X e te) (hs : swapsWith e (some (.Attribute o f p')) pos.line X.env = pure false := by rfl) :
    PS X (.Assign [.Attribute o f p'] e pos) (tPut C f to te) := by
  refine ⟨fun pins s σ H D I h => ?_⟩
  refine plainObj_wpAny_Assign_Attribute (thn (he.run pins s σ H _ I h) fun v s1 ⟨y, H1, I1, r1, q1⟩ => thn (ho.run pins s1 σ H1 _ I1 q1) fun u s2 ⟨z, H2, I2, r2, a, ex, ea, q⟩ => ?_) hs
  subst ex
  obtain rfl : u = Value.ref a := r2
  exact put_new T SF I2 ea r1 fun dx s' n ne J => ⟨σ, _, J, q dx n ne⟩
theorem pe_new {CX : CXT} {k : Nat} {fd : FuncData} {ps : List Str} {sp : Sp} (T : XIni X.K C fI bm nw f) (FB : ExcBaseFacts B nw ni bm)
    (F1 : FnOk X.prog X.w X.K X.mg X.base CX k fI fd ps sp) (hr : Room (k + 1) X.A) (hb : Binds X.K fd ps []) (hx : Passes CX X (fun _ _ _ => False)) (hg : Gl X x) (hm : X.mg x = some (.ref C)) (ha : PA X (e :: es) ta)
    (hdb : (x == ("__debug__" : Str)) = false := by decide) (he : starEach (e :: es) X.env = (false, eval e X.env) :: starEach es X.env := by rfl) (hpl : (backTo pos (starEach es X.env)).any (·.1) = false := by rfl) :
    PE X (.Call (.Name x p) (e :: es) [] pos) (tNew C sp ta) := by
  refine ⟨fun pins s σ H Q I h => ?_⟩
  refine wpAny_Call_Name_kw (ld_glob I hg hm ?_ hdb)
  refine PySem.W.callWith_K (h₀ := X.base) I.ok.mod.kin T.kp (thn (ha.run pos pins s σ H _ I h) fun us s1 ⟨vs, H1, I1, r1, hz, q1⟩ => ⟨I1.kIn, ?_⟩) he hpl
  show wpAny _ _ (call (.ref C) us) _ _ _
  obtain ⟨nm, N', qn, bs, bm', hdct, sn, sub, ab, col, dd, k0, k1, k2, k3, k5, hC, hT⟩ := PySem.W.excInit_of I1.kIn T.ii
  obtain ⟨hp, g, dr, tk, os⟩ := s1
  have hsz : hp.objs.size ≤ hp.objs.size + 1 := Nat.le_succ _
  have hn : H1 (hp.objs.size + 1) = none := I1.hok.fresh hsz
  have hq := q1 (hp.objs.size + 1) hn
  have kk : ∀ b o, hp.get? b = some o → ((hp.push (PySem.W.kdv_tup us)).push (PySem.HandSPX.excO C hp.objs.size)).get? b = some o := fun b o e => Heap.get?_push_of_some _ (Heap.get?_push_of_some _ e)
  have hget : ((hp.push (PySem.W.kdv_tup us)).push (PySem.HandSPX.excO C hp.objs.size)).get? (hp.objs.size + 1) = some (PySem.HandSPX.excO C hp.objs.size) := by heap_get
  have I2 : Inv X pins σ (upd H1 (hp.objs.size + 1) (exo (hp.objs.size + 1) C none)) ⟨(hp.push (PySem.W.kdv_tup us)).push (PySem.HandSPX.excO C hp.objs.size), g, dr, tk, os⟩ :=
    I1.laid (t' := tk) (a := hp.objs.size + 1) (o := exo (hp.objs.size + 1) C none) (h' := (hp.push (PySem.W.kdv_tup us)).push (PySem.HandSPX.excO C hp.objs.size)) kk hsz (exo_ok hget)
  have r2 : Vals (V.ref (hp.objs.size + 1) :: vs) (Value.ref (hp.objs.size + 1) :: us) := .cons rfl r1
  have hl : (Value.ref (hp.objs.size + 1) :: us ++ []).length = ps.length := by
    rw [List.append_nil, ← r2.length]
    exact F1.len _ _ _ _ hq
  have hus : us.length ≤ sizeLine := by
    rw [← Paired.length r1, sizeLine_eq]
    omega
  have hbb := hb ⟨(hp.push (PySem.W.kdv_tup us)).push (PySem.HandSPX.excO C hp.objs.size), g, dr, tk, os⟩ (Value.ref (hp.objs.size + 1) :: us) I2.kIn hl
  rw [List.append_nil] at hbb
  refine wpAny_call (PySem.HandSPX.call_own FB hT hC (PySem.W.looks_findIn I1.kIn T.it) (fun self => PySem.W.bind_fn I1.kIn self T.ty) hus
    (codeAny_mono (F1.run _ X.stack _ _ ⟨Value.ref (hp.objs.size + 1) :: us, []⟩ (Value.ref (hp.objs.size + 1) :: us) _ _ (fun _ _ _ => False) (hr.make C us []) (I2.env0.make C us []) hbb r2 hq) fun r s' hq' => ?_))
  cases r with
  | error er => exact hx pins σ _ _ er s' I2 hq'
  | ok fl =>
    cases fl with
    | ret u =>
      obtain ⟨v, H2, os2, bare2, un2, hok2, rv, ev, q2⟩ := hq'
      subst ev
      exact ⟨rv, .ref (hp.objs.size + 1), H2, I2.call' (ch := []) os2 un2 hok2 bare2 (fun b z => absurd z (by simp)), rfl, q2⟩
    | next => exact False.elim hq'
    | brk => exact False.elim hq'
    | cont => exact False.elim hq'
/-- C(), a class without an __init__ of its own -/
theorem pe_new0 {bmB : List Value} {newId initId : String} (F : ExcBaseFacts B newId initId bmB) (q : PySem.W.excIn X.K C bmB newId = true) (gC : X.mg x = some (.ref C)) (kC : keepIn X.K (.ref C) = true) (hg : Gl X x)
    (hdb : (x == ("__debug__" : Str)) = false := by decide) :
    PE X (.Call (.Name x p) [] [] pos) (fun σ H Q => ∀ a, H a = none → Q (.ref a) (upd H a (ExO (.ref C) a))) := by
  refine ⟨fun pins s σ H Q I h => ?_⟩
  refine wpAny_Call_Name_kw (ld_glob I hg gC ?_ hdb)
  refine PySem.W.callWith_K0 (first := []) I.kIn kC ?_
  show wpAny _ _ (call (.ref C) []) _ _ _
  obtain ⟨bm', N, nm, qn, bs, hdct, sn, sub, ab, col, dd, k0, k1, k2, k3, k5, mN, hC, hN, hni, T⟩ := exc_obj I.kIn q
  refine wpAny_call_exc_subT F T hC hN hni (fun h' a hm => ?_) (Nat.zero_le _)
  have hn : H a = none := I.hok.gone hm.new
  obtain ⟨t, ht, _, _⟩ := hm.there
  exact ⟨.ref a, upd H a (ExO (.ref C) a), I.laidN hm.keeps hm.new hn (exO_ok ht ⟨rfl, rfl⟩ rfl rfl rfl (show 4 < 6 by decide)), rfl, h a hn⟩
/-- e.n -/
def tAtt (te : TE) (n : Str) : TE := fun σ H Q => te σ H fun x H1 => ∃ (a C fI d : Addr) (bm : List Value) (nw : String) (v : V), x = .ref a ∧ XIni X.K C fI bm nw n ∧
  H1 a = some (exo a C (some d)) ∧ H1 d = some (exd d [(n, v)]) ∧ Q v H1
theorem pe_att {n : Str} (he : PE X e te) (hb : attributeBase e n X.env (eval e X.env) = eval e X.env := by rfl) : PE X (.Attribute e n pos) (tAtt (X := X) te n) := by
  refine ⟨fun pins s σ H Q I h => ?_⟩
  refine attr_of hb (thn (he.run pins s σ H _ I h) fun u s1 hh => ?_)
  obtain ⟨z, H1, I1, rx, a, C, fI, d, bm, nw, v, ex, T, ea, ed, q⟩ := hh
  subst ex
  obtain rfl : u = Value.ref a := rx
  obtain ⟨t1, ho⟩ := exo_at I1.hok ea
  obtain ⟨mA, hns, hr⟩ := exd_at I1.hok ed
  obtain ⟨od, hod, hl⟩ := lookIn_ns hns
  obtain ⟨u, hu, ru⟩ := RelO.some_of (v := v) (o := mA n) (by have z := hr n; rw [show List.lookup n [(n, v)] = some v by rw [List.lookup_cons, beq_self_eq_true]] at z; exact z)
  have J : PySem.W.InstAt s1.heap a _ C (some od) := ⟨ho, rfl, rfl, hod⟩
  exact HandSPX.exc_get I1.kIn J T.ga T.gt T.sb (PySem.W.findObj_own T.hd T.fn rfl (by rw [hl, hu])) (handed_of ru) ⟨v, H1, I1.tok _, ru, q⟩
end
/-- an exception of the class at D stands at a -/
def IsX (H : Hp) (a D : Addr) : Prop := (∃ d fs, H a = some (exo a D (some d)) ∧ H d = some (exd d fs)) ∨ H a = some (ExO (.ref D) a)
def rIsX (K : PySem.W.Frag) : List V → Hp → VK → Prop := fun xs H Q => ∃ (a D : Addr) (c : V) (cv : Value) (b : Bool), xs = [.ref a, c] ∧ ClsV c cv ∧ IsX H a D ∧ XCls K D ∧ PySem.W.kitOne K (.ref D) cv = some b ∧ Q (.bl b) H
theorem call_isX {X : Cx} (hn : specialIn X.K (.builtin "object.__class__") "__get__" = some (some (.builtin "getset_descriptor.__get__"))) (ht : takesIn X.K (.builtin "object.__class__") = some true) :
    CallR X (.builtin "isinstance") (rIsX X.K) := by
  intro pins s σ H xs us Q I r h
  obtain ⟨a, D, c, cv, b, rfl, hcv, hE, T, e, q⟩ := h
  cases r with
  | cons rx rr =>
    cases rr with
    | cons rt rr =>
      cases rr
      cases rx
      have ec := ClsV.eq hcv rt
      subst ec
      have hcl : (PySem.W.clsIn X.K D).isSome = true := by
        obtain ⟨cd, h1, _⟩ := PySem.W.any_some T.hd
        rw [h1] <;> rfl
      rcases hE with ⟨d, fs, e1, e2⟩ | e1
      · obtain ⟨t1, ho⟩ := exo_at I.hok e1
        obtain ⟨mA, ⟨od, _, _, hod, _⟩, _⟩ := exd_at I.hok e2
        have J : PySem.W.InstAt s.heap a _ D (some od) := ⟨ho, rfl, rfl, hod⟩
        exact PySem.W.kia_one (PySem.W.kitx_exc hcl T.ga T.gt T.sb T.cl hn ht T.ob) I.kIn J e (fun z => nomatch z) fun tk => ⟨.bl b, H, I.kept (t' := tk) fun _ _ z => z, rfl, q⟩
      · obtain ⟨⟨oe, vs, ho, hz, hd, _, _⟩, _, _⟩ := I.hok a _ e1
        obtain ⟨oc, odi, oda, osl⟩ := oe
        obtain ⟨h1, h2⟩ := hz
        dsimp only at h1 h2 hd
        subst h1 h2 hd
        have J : PySem.W.InstAt s.heap a _ D none := ⟨ho, rfl, rfl, trivial⟩
        exact PySem.W.kia_one (PySem.W.kitx_exc hcl T.ga T.gt T.sb T.cl hn ht T.ob) I.kIn J e (fun z => nomatch z) fun tk => ⟨.bl b, H, I.kept (t' := tk) fun _ _ z => z, rfl, q⟩
end Sb
namespace Sb
open PySem PySem.Spec PyProof.Rows L2
/-- an exception of the class at C stands at a, its one field f holds v -/
def ErrAt (H : Hp) (a C : Addr) (f : Str) (v : V) : Prop := ∃ dx, H a = some (exo a C (some dx)) ∧ H dx = some (exd dx [(f, v)])
theorem ErrAt.up {H H' : Hp} {a C : Addr} {f : Str} {v : V} (h : ErrAt H a C f v) (s : Same H H') : ErrAt H' a C f v := by
  obtain ⟨dx, h1, h2⟩ := h
  exact ⟨dx, s _ _ h1, s _ _ h2⟩
theorem ErrAt.isX {H : Hp} {a C : Addr} {f : Str} {v : V} (h : ErrAt H a C f v) : IsX H a C := by
  obtain ⟨dx, h1, h2⟩ := h
  exact .inl ⟨dx, _, h1, h2⟩
theorem IsX.up {H H' : Hp} {a C : Addr} (h : IsX H a C) (s : Same H H') : IsX H' a C := by
  rcases h with ⟨d, fs, h1, h2⟩ | h
  · exact .inl ⟨d, fs, s _ _ h1, s _ _ h2⟩
  · exact .inr (s _ _ h)
theorem new_ok {H : Hp} {C : Addr} {f : Str} {v : V} {R : Addr → Hp → Prop} (h : ∀ H' a, Same H H' → H a = none → ErrAt H' a C f v → R a H') :
    ([v] : List V).length ≤ 1000 ∧ ∀ a, H a = none → spIni C f (.ref a :: [v]) (upd H a (exo a C none)) (fun x H2 => x = .non ∧ R a H2) (fun _ _ _ => False) := by
  refine ⟨by show 1 ≤ 1000; omega, fun a na => ⟨a, v, rfl, upd_same, fun dx nd ne => ⟨rfl, ?_⟩⟩⟩
  refine h _ a (fun b o e => ?_) na ⟨dx, upd_same, by rw [upd_ne ne, upd_same]⟩
  have n1 : b ≠ a := ne_of_none e na
  have nd' : H dx = none := by
    rw [upd_ne ne] at nd
    exact nd
  rw [upd_ne n1, upd_ne (ne_of_none e nd'), upd_ne n1]
  exact e
end Sb
namespace Sb
open PySem PySem.Spec PyProof.Rows L2
theorem ErrAt.but {H H' : Hp} {a C m : Addr} {f : Str} {v : V} {xs : List V} (h : ErrAt H a C f v) (s : ∀ b o, H b = some o → b ≠ m → H' b = some o) (hm : H m = some (.lst xs)) : ErrAt H' a C f v := by
  obtain ⟨dx, h1, h2⟩ := h
  have z1 : exo a C (some dx) ≠ .lst xs := fun z => by
    have z' : HO.ext _ = HO.lst xs := z
    cases z'
  have z2 : exd dx [(f, v)] ≠ .lst xs := fun z => by
    have z' : HO.ext _ = HO.lst xs := z
    cases z'
  exact ⟨dx, s _ _ h1 (ne_of h1 hm z1), s _ _ h2 (ne_of h2 hm z2)⟩
end Sb
namespace Sb
open PySem PySem.Spec PyProof.Rows L2
theorem pe_cls {X : Cx} {x : Str} {a : Addr} {pos : Pos} (hg : Gl X x) (hm : X.mg x = some (.ref a)) (hd : (x == ("__debug__" : Str)) = false := by decide) : PE X (.Name x pos) (tC (.ref a)) := pe_glob (v := .ref a) hg hm rfl hd
theorem grown {H0 H : Hp} {m x : Addr} {xs zs : List V} (s : Same H0 H) (n : H0 m = none) (nx : H x = none) : Same H0 (upd (upd H x (.lst zs)) m (.lst (xs ++ zs))) := fun b o e => by
  rw [upd_ne (ne_of_none e n), upd_ne (ne_of_none (s b o e) nx)]
  exact s b o e
end Sb
set_option maxHeartbeats 4000000
namespace Sb
open PySem PySem.Spec PyProof.Rows L2
/-! ### the facts of the top, read by a hook: one Bool of the written part, the defs -/
abbrev Seen : Type := Bool × List He.FnW
def seenK (ok : PySem.W.Frag → Bool) (fn : List He.DefD) (K : PySem.W.Frag) : Seen := (ok K && fn.all fun d => d.ok K, fn.map fun d => He.fnW K d.at_)
def seenG (n : Nat) (ok : PySem.W.Frag → Bool) (fn : List He.DefD) (g : Addr → Option Obj) : Seen := seenK ok fn (He.frG g (He.asD g n))
def hookS (n : Nat) (ok : PySem.W.Frag → Bool) (fn : List He.DefD) : PySem.W.Hook where
  α := Seen
  obs := fun s => seenG n ok fn s.heap.get?
  val := fun _ => (true, fn.map He.DefD.val)
  says := fun _ h => ∃ K : PySem.W.Frag, K.In h ∧ seenK ok fn K = (true, fn.map He.DefD.val)
  of := fun _ _ e => ⟨_, He.frG_in, e⟩
  keeps := by
    rintro _ _ _ ⟨K, hK, c⟩ k
    exact ⟨K, PySem.W.Frag.In.keeps hK k, c⟩
theorem seenG_eq {n : Nat} {ok : PySem.W.Frag → Bool} {fn : List He.DefD} {g : Addr → Option Obj} {s : Shared} (h : ∀ a, g a = s.heap.get? a) : seenG n ok fn g = (hookS n ok fn).obs s := by
  obtain rfl : g = s.heap.get? := funext h
  rfl
section
variable {ok : PySem.W.Frag → Bool} {fn : List He.DefD} {K : PySem.W.Frag}
theorem seen_ok (c : seenK ok fn K = (true, fn.map He.DefD.val)) : ok K = true := (Bool.and_eq_true_iff.mp (congrArg Prod.fst c)).1
theorem seen_fun (c : seenK ok fn K = (true, fn.map He.DefD.val)) (i : Nat) {at_ : Str × Option Str} {x q : Str} {st : Stmt} (h : fn[i]? = some ⟨at_, x, q, defArgs st, defBody st, defScope st, [], []⟩) : ∃ fd, Fun K x q st (He.fAd K at_) fd := by
  have c2 := (Bool.and_eq_true_iff.mp (congrArg Prod.fst c)).2
  have e2 : (fn.map fun d => He.fnW K d.at_)[i]? = (fn.map He.DefD.val)[i]? := congrArg (fun z : Seen => z.2[i]?) c
  rw [List.getElem?_map, List.getElem?_map, h] at e2
  obtain ⟨fd, F⟩ := He.DefD.funD (Option.some.inj e2) (List.all_eq_true.mp c2 _ (List.mem_of_getElem? h))
  obtain ⟨oc, od, dV, kV, doc, pm, an, cdv, ct, osl, rfl, lk, hcd, hd, _⟩ := F.ex
  rcases hd with ⟨_, rfl⟩ | ⟨ne, _⟩
  · exact ⟨_, ⟨oc, od, kV, doc, pm, an, cdv, ct, osl, rfl, lk, hcd⟩, F.kp⟩
  · exact absurd rfl ne
end
end Sb
set_option maxHeartbeats 4000000
namespace Sb
open PySem PySem.Spec PyProof.Rows L2
/-! ### the deck that a law draws from -/
def DeckAt (H : Hp) (d c : Addr) (n : Nat) : Prop := ∃ ns : List Int, H d = some (.lst [.ref c, .int n]) ∧ H c = some (.lst (ns.map V.int)) ∧ ns.length ≤ 63
/-- all that is tracked is as it was, but for the deck -/
def Off (d c : Addr) (H H' : Hp) : Prop := ∀ b o, H b = some o → b ≠ d → b ≠ c → H' b = some o
theorem Off.refl (d c : Addr) (H : Hp) : Off d c H H := fun _ _ h _ _ => h
theorem Off.trans {d c : Addr} {H H1 H2 : Hp} (a : Off d c H H1) (b : Off d c H1 H2) : Off d c H H2 := fun x o h h1 h2 => b x o (a x o h h1 h2) h1 h2
theorem off_same {d c : Addr} {H H' : Hp} (s : Same H H') : Off d c H H' := fun b o h _ _ => s b o h
theorem DeckAt.ne {H : Hp} {d c : Addr} {n : Nat} (h : DeckAt H d c n) : c ≠ d := by
  obtain ⟨ns, h1, h2, _⟩ := h
  intro e
  rw [e, h1] at h2
  have z := Option.some.inj h2
  injection z with z
  cases ns with
  | nil => cases z
  | cons _ _ => cases z
theorem DeckAt.same {H H' : Hp} {d c : Addr} {n : Nat} (h : DeckAt H d c n) (s : Same H H') : DeckAt H' d c n := by
  obtain ⟨ns, h1, h2, h3⟩ := h
  exact ⟨ns, s _ _ h1, s _ _ h2, h3⟩
/-- the promises: the deck's making, a draw, one of several -/
def spDeck (K : PySem.W.Frag) : Sp := fun vs H Q _ => ∃ (a : Addr) (ns : List Int), vs = [.ref a] ∧ SqL K H a (ns.map V.int) ∧ ns.length ≤ 63 ∧ ∀ H' d c, Same H H' → H d = none → H c = none → DeckAt H' d c 0 → Q (.ref d) H'
def spDraw : Sp := fun vs H Q _ => ∃ (d c : Addr) (n : Nat) (m : Int), vs = [.ref d, .int m] ∧ DeckAt H d c n ∧ n ≤ 1000000000 ∧ 0 < m ∧ m < 1073741824 ∧
  ∀ H' v, Off d c H H' → DeckAt H' d c (n + 1) → 0 ≤ v → v < m → Q (.int v) H'
def spOne (K : PySem.W.Frag) : Sp := fun vs H Q _ => ∃ (d c t : Addr) (n : Nat) (xs : List V), vs = [.ref d, .ref t] ∧ DeckAt H d c n ∧ n ≤ 1000000000 ∧ (SqL K H t xs ∨ SqT K H t xs) ∧ t ≠ d ∧ t ≠ c ∧ xs ≠ [] ∧ xs.length ≤ 1000 ∧
  ∀ (H' : Hp) (i : Nat) (x : V), Off d c H H' → DeckAt H' d c (n + 1) → xs[i]? = some x → Q x H'
theorem Off.seqL {K : PySem.W.Frag} {H H' : Hp} {a d c : Addr} {xs : List V} (e : Off d c H H') (h : SqL K H a xs) (h1 : a ≠ d) (h2 : a ≠ c) : SqL K H' a xs := by
  rcases h with (h | ⟨o, h⟩) | h
  · exact .inl (.inl (e _ _ h h1 h2))
  · exact .inl (.inr ⟨o, e _ _ h h1 h2⟩)
  · exact .inr h
theorem Off.seqT {K : PySem.W.Frag} {H H' : Hp} {a d c : Addr} {xs : List V} (e : Off d c H H') (h : SqT K H a xs) (h1 : a ≠ d) (h2 : a ≠ c) : SqT K H' a xs := by
  rcases h with (h | ⟨o, h⟩) | h
  · exact .inl (.inl (e _ _ h h1 h2))
  · exact .inl (.inr ⟨o, e _ _ h h1 h2⟩)
  · exact .inr h
theorem abs_len {ns : List Int} (h : ns.length ≤ 63) : ns.length < sizeLine := small1000 (by omega)
end Sb
namespace Sb
open PySem PySem.Spec PyProof.Rows L2
theorem tYes_then {σ : L2.St} {H : Hp} {f g : Hp → Prop} (h : f H) : tYes σ H fun b H3 => if b = true then f H3 else g H3 := by
  show (if true = true then f H else g H)
  rw [if_pos rfl]
  exact h
theorem same_new {H : Hp} {p : Addr} {o : HO} (h : H p = none) : Same H (upd H p o) := fun b x e => by
  rw [upd_ne (ne_of_none e h)]
  exact e
theorem mod_at {i : Int} {n : Nat} (h : (0 : Int) < n) : ∃ j : Nat, i % n = j ∧ j < n := by
  have h1 := Int.emod_nonneg i (Int.ne_of_gt h)
  have h2 := Int.emod_lt_of_pos i h
  exact ⟨(i % n).toNat, by omega, by omega⟩
theorem ixN_nat {n j : Nat} (h : j < n) : ixN n (j : Int) = some j := by
  unfold ixN
  rw [if_pos (by omega), if_pos (by omega)]
  simp
theorem deck_small {n : Nat} {x a b c : Int} (hn : n ≤ 1000000000) (ha : 0 < a) (ha2 : a ≤ 2147483648) (hb : 0 ≤ b ∧ b ≤ 10000) (hc : 0 ≤ c ∧ c ≤ 100) : (x % a + b * (n + 1) + c).natAbs < 2 ^ 64 := by
  have h1 := Int.emod_nonneg x (Int.ne_of_gt ha)
  have h2 := Int.emod_lt_of_pos x ha
  have h3 : 0 ≤ b * ((n : Int) + 1) := Int.mul_nonneg hb.1 (by omega)
  have h4 : b * ((n : Int) + 1) ≤ 10000 * ((n : Int) + 1) := Int.mul_le_mul_of_nonneg_right hb.2 (by omega)
  omega
theorem same_put {H H' : Hp} {D : Addr} {o : HO} (s : Same H H') (nl' : H D = none) : Same H (upd H' D o) := fun b x e => by
  rw [upd_ne (ne_of_none e nl')]
  exact s b x e
theorem cut_ints (ns : List Int) (h : ns.length ≤ 63) : cutV (ns.map V.int) none (some 63) = ns.map V.int := by
  unfold cutV
  rw [HT.sIx_none, show HT.sIx (ns.map V.int).length (ns.map V.int).length (some 63) = min 63 (ns.map V.int).length from HT.sIx_nat _ _ 63, List.length_map, List.drop_zero, show min 63 ns.length - 0 = ns.length by omega]
  exact List.take_of_length_le (by rw [List.length_map]; omega)
end Sb
set_option maxHeartbeats 4000000
namespace Sb
open PySem PySem.Spec PyProof.Rows L2
/-! ### data -/
theorem seqT_up {K : PySem.W.Frag} {H H' : Hp} {a : Addr} {xs : List V} (e : Same H H') (h : SqT K H a xs) : SqT K H' a xs := by
  rcases h with (h | ⟨o, h⟩) | h
  · exact .inl (.inl (e _ _ h))
  · exact .inl (.inr ⟨o, e _ _ h⟩)
  · exact .inr h
mutual
theorem dp_up {K : PySem.W.Frag} {H H' : Hp} (s : Same H H') : ∀ (d : PyData) (v : V), Dp K H v d → Dp K H' v d
  | .none, _, h => by cases h; exact .non
  | .bool b, _, h => by cases h; exact .bl b
  | .int i, _, h => by cases h; exact .int i
  | .str x, _, h => by cases h; exact .str x
  | .list ds, _, h => by
    cases h with
    | lst hs ha => exact .lst (Same.seq s hs) (dps_up s ds _ ha)
  | .tuple ds, _, h => by
    cases h with
    | tup hs ha => exact .tup (seqT_up s hs) (dps_up s ds _ ha)
  | .dict _, _, h => by cases h
theorem dps_up {K : PySem.W.Frag} {H H' : Hp} (s : Same H H') : ∀ (ds : List PyData) (vs : List V), DpAll K H vs ds → DpAll K H' vs ds
  | [], _, h => by cases h; exact .nil
  | d :: ds, _, h => by
    cases h with
    | cons h1 h2 => exact .cons (dp_up s d _ h1) (dps_up s ds _ h2)
end
theorem dps_rep {K : PySem.W.Frag} {H : Hp} {v : V} {d : PyData} (h : Dp K H v d) : ∀ n, DpAll K H (List.replicate n v) (List.replicate n d)
  | 0 => .nil
  | n + 1 => by
    rw [List.replicate_succ, List.replicate_succ]
    exact .cons h (dps_rep h n)
theorem dps_ints {K : PySem.W.Frag} {H : Hp} : ∀ ns : List Int, DpAll K H (ns.map V.int) (ns.map PyData.int)
  | [] => .nil
  | n :: ns => .cons (.int n) (dps_ints ns)
theorem dps_bls {K : PySem.W.Frag} {H : Hp} : ∀ bs : List Bool, DpAll K H (bs.map V.bl) (bs.map PyData.bool)
  | [] => .nil
  | b :: bs => .cons (.bl b) (dps_bls bs)
/-- data that repr can show, of a bounded text -/
def Fine (d : PyData) (n : Nat) : Prop := d.showable = true ∧ d.hasDict = false ∧ d.depth ≤ 50 ∧ d.shown.length ≤ n
theorem shown_rep (d : PyData) : ∀ n, PyData.shownAll (List.replicate n d) = List.replicate n d.shown
  | 0 => rfl
  | n + 1 => by rw [List.replicate_succ, List.replicate_succ, PyData.shownAll, shown_rep d n]
theorem showable_rep {d : PyData} (h : d.showable = true) : ∀ n, PyData.showableAll (List.replicate n d) = true
  | 0 => rfl
  | n + 1 => by rw [List.replicate_succ, PyData.showableAll, h, showable_rep h n]; rfl
theorem hasDict_rep {d : PyData} (h : d.hasDict = false) : ∀ n, PyData.hasDictAll (List.replicate n d) = false
  | 0 => rfl
  | n + 1 => by rw [List.replicate_succ, PyData.hasDictAll, h, hasDict_rep h n]; rfl
theorem depth_rep {d : PyData} {k : Nat} (h : d.depth ≤ k) : ∀ n, PyData.depthAll (List.replicate n d) ≤ k
  | 0 => by show 0 ≤ k; omega
  | n + 1 => by
    have := depth_rep h n
    rw [List.replicate_succ, PyData.depthAll]
    omega
theorem sum_rep (k : Nat) : ∀ n, (List.replicate n k).sum = n * k
  | 0 => by simp
  | n + 1 => by
    rw [List.replicate_succ, List.sum_cons, sum_rep k n, Nat.add_mul]
    omega
theorem fine_rep {d : PyData} {k : Nat} (h : Fine d k) (hd : d.depth ≤ 49) (n : Nat) : Fine (.list (List.replicate n d)) (n * k + 2 * n + 3) := by
  obtain ⟨h1, h2, h3, h4⟩ := h
  refine ⟨?_, ?_, ?_, ?_⟩
  · rw [PyData.showable]
    exact showable_rep h1 n
  · rw [PyData.hasDict]
    exact hasDict_rep h2 n
  · have := depth_rep hd n
    rw [PyData.depth]
    omega
  · rw [PyData.shown, shown_rep]
    refine Nat.le_trans (listText_len_le _) ?_
    rw [List.map_replicate, sum_rep, List.length_replicate]
    have : n * d.shown.length ≤ n * k := Nat.mul_le_mul_left n h4
    omega
theorem repr_fine {K : PySem.W.Frag} {H : Hp} {a : Addr} {d : PyData} {n : Nat} {Q : VK} (h : Dp K H (.ref a) d) (f : Fine d n) (hn : n ≤ sizeLine) (q : Q (.str d.shown) H) : rRepr K [.ref a] H Q :=
  ⟨a, d, rfl, h, f.1, f.2.1, Nat.le_trans f.2.2.1 (by omega), Nat.le_trans f.2.2.2 hn, q⟩
end Sb
set_option maxHeartbeats 4000000
namespace K00
open PySem PySem.Spec PyProof.Rows L2 Sb
def topS (i : Nat) : Stmt := PySem.Challenge.pw_savedback_k00_errors_made_by_hand.main.body.getD i (.Pass ⟨0, 0, 0, 0⟩)
/-! ### the deck -/
abbrev sDeck : Stmt := topS 31
abbrev sDraw : Stmt := topS 32
abbrev sOne : Stmt := topS 33
theorem scDeck : FnScope ["_law_script", "_law_cell"] ["_law_script"] (defScope sDeck) := ⟨rfl, rfl, rfl, by decide +kernel, rfl, by decide +kernel, by decide +kernel⟩
theorem scDraw : FnScope ["_law_deck_here", "_law_most", "_law_cell", "_law_at", "_law_mixed"] ["_law_deck_here", "_law_most"] (defScope sDraw) := ⟨rfl, rfl, rfl, by decide +kernel, rfl, by decide +kernel, by decide +kernel⟩
theorem scOne : FnScope ["_law_deck_here", "_law_items"] ["_law_deck_here", "_law_items"] (defScope sOne) := ⟨rfl, rfl, rfl, by decide +kernel, rfl, by decide +kernel, by decide +kernel⟩
section
variable {P : Program} {w : World} {K : PySem.W.Frag} {mg : Str → Option Value} {base : Heap}
theorem ok_deck {f : Addr} {fd : FuncData} (F : Fun K "_law_deck" "_law_deck" sDeck f fd) (mAbs : mg "abs" = none) : FnOk P w K mg base CX0 1 f fd ["_law_script"] (spDeck K) := by
  refine F.ok scDeck (fun vs H Q E h => ?_) (fun cdv A outer s H vs Q E hr h => ?_)
  · obtain ⟨a, ns, rfl, _⟩ := h
    rfl
  · obtain ⟨a, ns, rfl, hS, hlen, q⟩ := h
    refine ⟨_, pss_one (ps_ret (pe_lst (pa_cons (pe_lc (own := [("_law_cell", 1)]) (g := gName 1) (tt := tYes) (by rfl) scDeck.nd (pi_list (pe_slice sl_list (pv 0) po_none (po_some pe_int)))
      (blkOk_by (own := [("_law_cell", 1)]) (N := ["_law_script", "_law_cell"]) (sc := defScope sDeck) (by decide +kernel)) (fun _ _ _ _ _ => pg_name (i := 1) scDeck.nd rfl (Or.inl rfl)) (fun _ _ _ _ _ => pts_nil)
      (fun _ _ _ _ _ => pe_callB call_abs (by rfl) mAbs (by decide +kernel) (pa_cons (pv 1) pa_nil))) (pa_cons pe_int pa_nil)))), ?_⟩
    refine ⟨_, rfl, 63, rfl, a, _, rfl, hS, fun l nl => ?_⟩
    have s1 : Same H (upd H l (.lst (cutV (ns.map V.int) none (some 63)))) := same_new nl
    refine ⟨l, rfl, ⟨_, .inl (.inl upd_same)⟩, fun D nD => ?_⟩
    have s2 := s1.trans (same_new (o := .lst []) nD)
    have eD : D ≠ l := fun e => by
      rw [e, upd_same] at nD
      cases nD
    rw [cut_ints ns hlen] at *
    refine lc_list (xs := ns.map V.int) (fun i H' => Same H H' ∧ H' l = some (.lst (ns.map V.int)) ∧ ∃ ms : List Int, ms.length = i ∧ H' D = some (.lst (ms.map V.int)))
      ⟨s2, by rw [upd_ne eD.symm, upd_same], [], rfl, upd_same⟩ (fun i H' _ h => .inl (.inl h.2.1)) (fun i x H' hx hP => ?_) (fun H' hP => ?_)
    · obtain ⟨sm, hl, ms, rfl, hD⟩ := hP
      obtain ⟨z, rfl⟩ : ∃ z, x = V.int z := by
        obtain ⟨z, _, e⟩ := List.mem_map.mp (List.mem_of_getElem? hx)
        exact ⟨z, e.symm⟩
      have hi : ms.length < ns.length := by
        have e := (List.getElem?_eq_some_iff.mp hx).1
        rw [List.length_map] at e
        exact e
      refine ⟨rfl, tYes_then ?_⟩
      refine ⟨_, rfl, _, rfl, ms.map V.int, hD, by rw [List.length_map]; exact abs_len (by omega), ?_, ?_, ms ++ [if z < 0 then -z else z], ?_, ?_⟩
      · exact same_put sm ((same_new (o := .lst _) nl).free nD)
      · rw [upd_ne eD.symm]
        exact hl
      · rw [List.length_append, List.length_singleton]
      · rw [upd_same, List.map_append]
        rfl
    · obtain ⟨sm, hl, ms, e, hD⟩ := hP
      rw [List.length_map] at e
      refine ⟨by show 2 ≤ sizeLine; decide, fun d nd => ?_⟩
      refine q _ d D (sm.trans (same_new nd)) (sm.free nd) (s1.free nD) ⟨ms, upd_same, ?_, by omega⟩
      rw [upd_ne (ne_of_none hD nd)]
      exact hD
theorem ok_draw {f : Addr} {fd : FuncData} (F : Fun K "_law_draw" "_law_draw" sDraw f fd) (mLen : mg "len" = none) (mInt : mg "int" = none) : FnOk P w K mg base CX0 1 f fd ["_law_deck_here", "_law_most"] spDraw := by
  refine F.ok scDraw (fun vs H Q E h => ?_) (fun cdv A outer s H vs Q E hr h => ?_)
  · obtain ⟨d, c, n, m, rfl, _⟩ := h
    rfl
  · obtain ⟨d, c, n, m, rfl, hD, hn, hm0, hm1, q⟩ := h
    have nd := scDraw.nd
    refine ⟨_, pss_cons (ps_asg (pe_op op_add (pe_ix ix_list (pv 0) pe_int (fun _ _ => rfl)) pe_int) (pg_sub (pv 0) pe_int set_list))
      (pss_cons (ps_asg (pe_tup (pa_cons pe_int (pa_cons (pe_un un_neg pe_int) pa_nil))) (pg_tup (by rfl) (pgs_cons (pg_name (i := 2) nd rfl (Or.inl rfl)) (pgs_cons (pg_name (i := 3) nd rfl (Or.inl rfl)) pgs_nil))))
      (pss_cons (ps_if (pt_cmpR op_gt (pe_callB call_len_seq (by rfl) mLen PySem.boot_len (pa_cons (pe_ix ix_list (pv 0) pe_int (fun _ _ => rfl)) pa_nil)) pe_int (nomark _))
        (pss_cons (ps_set (i := 3) nd rfl (Or.inl rfl) (pe_op op_mod (pe_callTy call_int1 (by rfl) mInt (by decide +kernel) (pa_cons (pe_ix ix_list (pv 0) pe_int (fun _ _ => rfl)) pa_nil)) (pe_callB call_len_seq (by rfl) mLen PySem.boot_len (pa_cons (pe_ix ix_list (pv 0) pe_int (fun _ _ => rfl)) pa_nil))))
        (pss_one (ps_set (i := 2) nd rfl (Or.inl rfl) (pe_ix ix_list (pe_ix ix_list (pv 0) pe_int (fun _ _ => rfl)) (pv 3) (fun _ _ => rfl))))) pss_nil)
      (pss_cons (ps_if (pt_cmpR op_ge (pv 2) (pe_op op_pow pe_int pe_int) (nomark _))
        (pss_cons (ps_asg (pe_op op_fdiv (pe_callTy call_int1 (by rfl) mInt (by decide +kernel) (pa_cons (pv 2) pa_nil)) (pv 1)) (pg_sub (pe_ix ix_list (pv 0) pe_int (fun _ _ => rfl)) (pv 3) set_list))
        (pss_one (ps_ret (pe_op op_mod (pe_callTy call_int1 (by rfl) mInt (by decide +kernel) (pa_cons (pv 2) pa_nil)) (pv 1))))) pss_nil)
      (pss_cons (ps_set (i := 4) nd rfl (Or.inl rfl) (pe_op op_add (pe_op op_add (pe_op op_mod (pe_callTy call_int1 (by rfl) mInt (by decide +kernel) (pa_cons (pv 2) pa_nil)) pe_int) (pe_op op_mul pe_int (pe_ix ix_list (pv 0) pe_int (fun _ _ => rfl)))) pe_int))
      (pss_one (ps_ret (pe_op op_mod (pe_callTy call_int1 (by rfl) mInt (by decide +kernel) (pa_cons (pe_op op_mod (pe_callTy call_int1 (by rfl) mInt (by decide +kernel) (pa_cons (pe_op op_pow (pv 4) pe_int) pa_nil)) pe_int) pa_nil)) (pv 1)))))))), ?_⟩
    have hcd := hD.ne
    obtain ⟨ns, h1, h2, hlen⟩ := hD
    -- deck[1] = deck[1] + 1
    refine ⟨_, rfl, d, _, 1, .int n, rfl, rfl, .inl (.inl h1), rfl, n, 1, rfl, rfl, ?_⟩
    refine ⟨_, rfl, d, _, 1, 1, rfl, rfl, h1, rfl, ?_⟩
    generalize hH1 : upd H d (.lst (List.set [.ref c, .int n] 1 (.int (n + 1)))) = H1
    have e1 : H1 d = some (.lst [.ref c, .int (n + 1)]) := by rw [← hH1, upd_same]; rfl
    have e2 : H1 c = some (.lst (ns.map V.int)) := by rw [← hH1, upd_ne hcd]; exact h2
    have e3 : ∀ b, b ≠ d → H1 b = H b := fun b hb => by rw [← hH1, upd_ne hb]
    clear hH1
    -- cell, at = 0, -1
    refine ⟨_, rfl, by show 2 ≤ sizeLine; decide, fun T nT => ?_⟩
    refine ⟨T, _, rfl, .inl (.inl upd_same), rfl, _, _, rfl, _, _, rfl, rfl, ?_⟩
    generalize hH2 : upd H1 T (.tup [.int 0, .int (-1)]) = H2
    have dT : d ≠ T := ne_of_none e1 nT
    have cT : c ≠ T := ne_of_none e2 nT
    have f1 : H2 d = some (.lst [.ref c, .int (n + 1)]) := by rw [← hH2, upd_ne dT]; exact e1
    have f2 : H2 c = some (.lst (ns.map V.int)) := by rw [← hH2, upd_ne cT]; exact e2
    have f3 : Off d c H H2 := by
      intro b o hb h1 h2
      have e := e3 b h1
      rw [hb] at e
      rw [← hH2, upd_ne (ne_of_none e nT)]
      exact e
    clear hH2
    -- if len(deck[0]) > 0
    refine ⟨_, rfl, d, _, 0, .ref c, rfl, rfl, .inl (.inl f1), rfl, c, _, rfl, .inl (.inl (.inl f2)), _, _, rfl, rfl, _, rfl, ?_⟩
    refine ite2 (fun h0 => ?_) (fun h0 => ?_)
    · have hpos : 0 < ns.length := by
        have e := of_decide_eq_true h0
        rw [List.length_map] at e
        omega
      have hp' : (0 : Int) < ((ns.map V.int).length : Nat) := of_decide_eq_true h0
      -- at = int(deck[1]) % len(deck[0]); cell = deck[0][at]
      refine ⟨_, rfl, d, _, 1, .int (n + 1), rfl, rfl, .inl (.inl f1), rfl, .inl ⟨_, rfl, ?_⟩⟩
      refine ⟨_, rfl, d, _, 0, .ref c, rfl, rfl, .inl (.inl f1), rfl, c, _, rfl, .inl (.inl (.inl f2)), _, _, rfl, rfl, hp', ?_⟩
      obtain ⟨j, hj, hjl⟩ := mod_at (i := ((n : Int) + 1)) hp'
      obtain ⟨cell, hc⟩ : ∃ cell, ns[j]? = some cell := ⟨ns[j]'(by rw [List.length_map] at hjl; exact hjl), List.getElem?_eq_getElem _⟩
      have hcm : (ns.map V.int)[j]? = some (.int cell) := by rw [List.getElem?_map, hc]; rfl
      have hat : atI (ns.map V.int) (((n : Int) + 1) % ((ns.map V.int).length : Nat)) = some (.int cell) := by rw [hj]; exact atI_nat hcm
      have hix : ixN (ns.map V.int).length (((n : Int) + 1) % ((ns.map V.int).length : Nat)) = some j := by rw [hj]; exact ixN_nat hjl
      refine ⟨_, rfl, d, _, 0, .ref c, rfl, rfl, .inl (.inl f1), rfl, _, rfl, c, _, _, .int cell, rfl, rfl, .inl (.inl f2), hat, ?_⟩
      -- if cell >= 10 ** 18
      refine ⟨_, rfl, _, _, rfl, rfl, ⟨by decide, by decide, by decide⟩, _, _, rfl, rfl, _, rfl, ?_⟩
      refine ite2 (fun h1 => ?_) (fun h1 => ?_)
      · refine ⟨_, rfl, .inl ⟨_, rfl, ?_⟩⟩
        refine ⟨_, rfl, _, _, rfl, rfl, ⟨hm0, hm1⟩, _, rfl, d, _, 0, .ref c, rfl, rfl, .inl (.inl f1), rfl, _, rfl, c, _, _, j, rfl, rfl, f2, hix, ?_⟩
        refine ⟨_, rfl, .inl ⟨_, rfl, ?_⟩⟩
        refine ⟨_, rfl, _, _, rfl, rfl, hm0, ?_⟩
        refine q _ _ (f3.trans fun b o hb h1 h2 => by rw [upd_ne h2]; exact hb) ⟨ns.set j (cell / m), ?_, ?_, by rw [List.length_set]; exact hlen⟩ (Int.emod_nonneg _ (Int.ne_of_gt hm0)) (Int.emod_lt_of_pos _ hm0)
        · rw [upd_ne hcd.symm]
          exact f1
        · rw [upd_same, List.map_set]
      refine ⟨_, rfl, .inl ⟨_, rfl, ?_⟩⟩
      refine ⟨_, _, rfl, rfl, (by show (0 : Int) < 2147483423; decide), _, rfl, d, _, 1, .int (n + 1), rfl, rfl, .inl (.inl f1), rfl, _, _, rfl, rfl, .inl ⟨by decide, by decide⟩, _, _, rfl, rfl, _, _, rfl, rfl, ?_⟩
      refine ⟨_, rfl, _, _, rfl, rfl, ⟨by decide, by decide, deck_small hn (by decide) (by decide) (by decide) (by decide)⟩, .inl ⟨_, rfl, ?_⟩⟩
      refine ⟨_, _, rfl, rfl, (by show (0 : Int) < 2147483549; decide), .inl ⟨_, rfl, ?_⟩⟩
      refine ⟨_, rfl, _, _, rfl, rfl, hm0, ?_⟩
      exact q _ _ f3 ⟨ns, f1, f2, hlen⟩ (Int.emod_nonneg _ (Int.ne_of_gt hm0)) (Int.emod_lt_of_pos _ hm0)
    · refine ⟨_, rfl, _, _, rfl, rfl, ⟨by decide, by decide, by decide⟩, _, _, rfl, rfl, _, rfl, ?_⟩
      refine iteF ?_
      refine ⟨_, rfl, .inl ⟨_, rfl, ?_⟩⟩
      refine ⟨_, _, rfl, rfl, (by show (0 : Int) < 2147483423; decide), _, rfl, d, _, 1, .int (n + 1), rfl, rfl, .inl (.inl f1), rfl, _, _, rfl, rfl, .inl ⟨by decide, by decide⟩, _, _, rfl, rfl, _, _, rfl, rfl, ?_⟩
      refine ⟨_, rfl, _, _, rfl, rfl, ⟨by decide, by decide, deck_small hn (by decide) (by decide) (by decide) (by decide)⟩, .inl ⟨_, rfl, ?_⟩⟩
      refine ⟨_, _, rfl, rfl, (by show (0 : Int) < 2147483549; decide), .inl ⟨_, rfl, ?_⟩⟩
      refine ⟨_, rfl, _, _, rfl, rfl, hm0, ?_⟩
      exact q _ _ f3 ⟨ns, f1, f2, hlen⟩ (Int.emod_nonneg _ (Int.ne_of_gt hm0)) (Int.emod_lt_of_pos _ hm0)
theorem ok_one {f fD : Addr} {fd fdD : FuncData} (F : Fun K "_law_one" "_law_one" sOne f fd) (FD : Fun K "_law_draw" "_law_draw" sDraw fD fdD) (bD : Binds K fdD ["_law_deck_here", "_law_most"] []) (gD : mg "_law_draw" = some (.ref fD)) (mLen : mg "len" = none) (mInt : mg "int" = none) :
    FnOk P w K mg base CX0 2 f fd ["_law_deck_here", "_law_items"] (spOne K) := by
  have GD : FnOk P w K mg base CX0 1 fD fdD ["_law_deck_here", "_law_most"] spDraw := ok_draw FD mLen mInt
  refine F.ok scOne (fun vs H Q E h => ?_) (fun cdv A outer s H vs Q E hr h => ?_)
  · obtain ⟨d, c, t, n, xs, rfl, _⟩ := h
    rfl
  · obtain ⟨d, c, t, n, xs, rfl, hD, hn, hS, h1, h2, hne, hlen, q⟩ := h
    have hlp : (0 : Int) < (xs.length : Nat) := by
      have := List.length_pos_iff.mpr hne
      omega
    refine ⟨_, pss_one (ps_ret (pe_ix ix_seq (pv 1) (pe_call GD hr (by rfl) gD FD.kp bD .nil pass0 (pa_cons (pv 0) (pa_cons (pe_callB call_len_seq (by rfl) mLen PySem.boot_len (pa_cons (pv 1) pa_nil)) pa_nil))) (fun _ _ => rfl))), ?_⟩
    refine ⟨_, rfl, _, rfl, _, rfl, t, xs, rfl, hS, d, c, n, _, rfl, hD, hn, hlp, by omega, fun H' v f3 hD' v0 v1 => ?_⟩
    obtain ⟨j, rfl⟩ := Int.eq_ofNat_of_zero_le v0
    have hj : j < xs.length := by omega
    have hx : xs[j]? = some (xs[j]'hj) := List.getElem?_eq_getElem hj
    have e := q H' j _ f3 hD' hx
    rcases hS with hS | hS
    · exact .inl ⟨t, xs, _, _, rfl, rfl, f3.seqL hS h1 h2, atI_nat hx, e⟩
    · exact .inr (.inl ⟨t, xs, _, _, rfl, rfl, f3.seqT hS h1 h2, atI_nat hx, e⟩)
end
end K00
set_option maxHeartbeats 4000000
namespace K00
open PySem PySem.Spec PyProof.Rows L2 Sb
/-! ### the classes -/
def bmVE : List Value := [.type "ValueError", .type "Exception", .type "BaseException", .type "object"]
def bmLE : List Value := [.type "LookupError", .type "Exception", .type "BaseException", .type "object"]
def cnm : List Str := ["BadText", "BadGame", "BadPlan", "BadWorld", "Unsafe", "BadEdit", "Rejected", "NoField", "NoVersion", "BadDepths", "Busy", "TooManyEdits", "NothingToUndo", "NothingToRedo", "BadEdits", "SaveError"]
def Cl (K : PySem.W.Frag) (i : Nat) : Addr := He.ga K (cnm.getD i "")
/-- is an error of the i-th class of the j-th one -/
def isOf (i j : Nat) : Bool := if j < 15 then i == j else if j == 15 then !(i == 7 || i == 8) else if j == 16 then i == 7 || i == 8 else !(i == 7 || i == 8)
def clV (K : PySem.W.Frag) (j : Nat) : Value := if j < 16 then .ref (Cl K j) else if j == 16 then .type "LookupError" else .type "ValueError"
def xclB (K : PySem.W.Frag) (C : Addr) : Bool :=
  He.eqO (PySem.W.findIn K (.ref C) "__getattribute__") (some (some (.builtin "BaseException.__getattribute__"))) && (He.eqO (PySem.W.findIn K (.ref C) "__getattr__") (some none) &&
  (decide (PySem.W.subIn K (.ref C) (.type "BaseException") = some true) && (PySem.W.hasDictIn K C && (He.eqO (PySem.W.findIn K (.ref C) "__class__") (some (some (.builtin "object.__class__"))) &&
  (decide (PySem.W.mroIn K C (.type "object") = some true) && PySem.W.keepIn K (.ref C))))))
theorem xclB_ok {K : PySem.W.Frag} {C : Addr} (h : xclB K C = true) : XCls K C := by
  obtain ⟨h1, h⟩ := He.ba h
  obtain ⟨h2, h⟩ := He.ba h
  obtain ⟨h3, h⟩ := He.ba h
  obtain ⟨h4, h⟩ := He.ba h
  obtain ⟨h5, h⟩ := He.ba h
  obtain ⟨h6, h7⟩ := He.ba h
  exact ⟨He.eqO_ok h1, He.eqO_ok h2, of_decide_eq_true h3, h4, He.eqO_ok h5, of_decide_eq_true h6, h7⟩
def xinB (K : PySem.W.Frag) (C : Addr) (bm : List Value) (nw : String) (f : Str) : Bool :=
  xclB K C && (PySem.W.excInitIn K C bm nw && (PySem.W.excOver K C bm && (He.eqO (PySem.W.findIn K (.ref C) "__setattr__") (some (some (.builtin "object.__setattr__"))) &&
  (He.eqO (PySem.W.takerIn K C f) (some none) && (He.eqO (PySem.W.findIn K (.ref C) f) (some none) && (He.eqO (PySem.W.findIn K (.ref C) "__init__") (some (some (.ref (He.ma K C "__init__")))) &&
  decide (PySem.W.typeIn K (.ref (He.ma K C "__init__")) = some (.type "function"))))))))
theorem xinB_ok {K : PySem.W.Frag} {C : Addr} {bm : List Value} {nw : String} {f : Str} (h : xinB K C bm nw f = true) : XIni K C (He.ma K C "__init__") bm nw f := by
  obtain ⟨h1, h⟩ := He.ba h
  obtain ⟨h2, h⟩ := He.ba h
  obtain ⟨h3, h⟩ := He.ba h
  obtain ⟨h4, h⟩ := He.ba h
  obtain ⟨h5, h⟩ := He.ba h
  obtain ⟨h6, h⟩ := He.ba h
  obtain ⟨h7, h8⟩ := He.ba h
  exact { toXCls := xclB_ok h1, ii := h2, ov := h3, sa := He.eqO_ok h4, ft := He.eqO_ok h5, fn := He.eqO_ok h6, it := He.eqO_ok h7, ty := of_decide_eq_true h8 }
def gloB (K : PySem.W.Frag) (x : Str) : Bool := He.eqO (PySem.W.nsIn K mainGlobals x) (some (some (.ref (He.ga K x))))
def freeB (K : PySem.W.Frag) (x : Str) : Bool := He.eqO (PySem.W.nsIn K mainGlobals x) (some none)
def numB (K : PySem.W.Frag) (q : Str × Int) : Bool := (He.Fa.int q.1 q.2).ok K
def inis : List (Str × Bool × Str) := [("BadText", false, "line"), ("BadGame", false, "error"), ("BadPlan", false, "error"), ("BadWorld", false, "world"), ("Unsafe", false, "depth"), ("BadEdit", false, "index"), ("Rejected", false, "index"), ("NoField", true, "field"), ("NoVersion", true, "version")]
def frees : List Str := ["len", "int", "abs", "isinstance", "range", "repr", "LookupError", "ValueError"]
def glos : List Str := cnm ++ (["_law_deck", "_law_draw", "_law_one", "_law_fields", "_law_kinds", "law"] : List Str)
def nums : List (Str × Int) := [("MAX_FIELDS", 4), ("MAX_SIZE", 6), ("MAX_WORLDS", 24), ("MAX_KEYS", 3), ("MAX_DEEP", 3), ("MAX_NOTS", 2), ("MAX_PLACES", 16), ("MAX_NEST", 3), ("MAX_ROW", 400), ("MAX_DEPTH", 60), ("MAX_COST", 99), ("MAX_EDITS", 60), ("BATCH", 20)]
def okK (K : PySem.W.Frag) : Bool :=
  (inis.all fun q => xinB K (He.ga K q.1) (if q.2.1 then bmLE else bmVE) (if q.2.1 then "LookupError.__new__" else "ValueError.__new__") q.2.2) &&
  ((cnm.all fun x => xclB K (He.ga K x)) && (((cnm.drop 9).all fun x => PySem.W.excIn K (He.ga K x) bmVE "ValueError.__new__") && ((frees.all fun x => freeB K x) && ((glos.all fun x => gloB K x) && ((nums.all fun q => numB K q) &&
  (He.eqO (PySem.W.specialIn K (.builtin "object.__class__") "__get__") (some (some (.builtin "getset_descriptor.__get__"))) && (decide (PySem.W.takesIn K (.builtin "object.__class__") = some true) &&
  (List.range 16).all fun i => (List.range 18).all fun j => decide (PySem.W.kitOne K (.ref (Cl K i)) (clV K j) = some (isOf i j)))))))))
/-- what the walk asks of the top -/
structure Txt (K : PySem.W.Frag) (mg : Str → Option Value) : Prop where
  ini : ∀ q ∈ inis, XIni K (He.ga K q.1) (He.ma K (He.ga K q.1) "__init__") (if q.2.1 then bmLE else bmVE) (if q.2.1 then "LookupError.__new__" else "ValueError.__new__") q.2.2
  cls : ∀ x ∈ cnm, XCls K (He.ga K x)
  pln : ∀ x ∈ cnm.drop 9, PySem.W.excIn K (He.ga K x) bmVE "ValueError.__new__" = true
  fre : ∀ x ∈ frees, mg x = none
  glo : ∀ x ∈ glos, mg x = some (.ref (He.ga K x))
  num : ∀ q ∈ nums, ∃ t, mg q.1 = some (.int q.2 t)
  hn : PySem.W.specialIn K (.builtin "object.__class__") "__get__" = some (some (.builtin "getset_descriptor.__get__"))
  ht : PySem.W.takesIn K (.builtin "object.__class__") = some true
  kit : ∀ i j, i < 16 → j < 18 → PySem.W.kitOne K (.ref (Cl K i)) (clV K j) = some (isOf i j)
theorem txt_of {K : PySem.W.Frag} {h : Heap} {mg : Str → Option Value} (X : K.In h) (G : h.Ns mainGlobals mg) (c : okK K = true) : Txt K mg := by
  obtain ⟨h1, c⟩ := He.ba c
  obtain ⟨h2, c⟩ := He.ba c
  obtain ⟨h3, c⟩ := He.ba c
  obtain ⟨h4, c⟩ := He.ba c
  obtain ⟨h5, c⟩ := He.ba c
  obtain ⟨h6, c⟩ := He.ba c
  obtain ⟨h7, c⟩ := He.ba c
  obtain ⟨h8, h9⟩ := He.ba c
  refine ⟨fun q hq => xinB_ok (List.all_eq_true.mp h1 q hq), fun x hx => xclB_ok (List.all_eq_true.mp h2 x hx), fun x hx => List.all_eq_true.mp h3 x hx, fun x hx => PySem.W.mg_none_of X G (He.eqO_ok (List.all_eq_true.mp h4 x hx)),
    fun x hx => PySem.W.mg_of X G (He.eqO_ok (List.all_eq_true.mp h5 x hx)), fun q hq => He.int_ok X G (List.all_eq_true.mp h6 q hq), He.eqO_ok h7, of_decide_eq_true h8, fun i j hi hj => ?_⟩
  exact of_decide_eq_true (List.all_eq_true.mp (List.all_eq_true.mp h9 i (List.mem_range.mpr hi)) j (List.mem_range.mpr hj))

abbrev sI0 : Stmt := inClass (topS 2) 0
abbrev sI1 : Stmt := inClass (topS 3) 0
abbrev sI2 : Stmt := inClass (topS 4) 0
abbrev sI3 : Stmt := inClass (topS 5) 0
abbrev sI4 : Stmt := inClass (topS 7) 0
abbrev sI5 : Stmt := inClass (topS 13) 0
abbrev sI6 : Stmt := inClass (topS 14) 0
abbrev sI7 : Stmt := inClass (topS 15) 0
abbrev sI8 : Stmt := inClass (topS 16) 0
theorem scI0 : FnScope ["self", "line"] ["self", "line"] (defScope sI0) := ⟨rfl, rfl, rfl, by decide +kernel, rfl, by decide +kernel, by decide +kernel⟩
theorem scI1 : FnScope ["self", "error"] ["self", "error"] (defScope sI1) := ⟨rfl, rfl, rfl, by decide +kernel, rfl, by decide +kernel, by decide +kernel⟩
theorem scI2 : FnScope ["self", "error"] ["self", "error"] (defScope sI2) := ⟨rfl, rfl, rfl, by decide +kernel, rfl, by decide +kernel, by decide +kernel⟩
theorem scI3 : FnScope ["self", "world"] ["self", "world"] (defScope sI3) := ⟨rfl, rfl, rfl, by decide +kernel, rfl, by decide +kernel, by decide +kernel⟩
theorem scI4 : FnScope ["self", "depth"] ["self", "depth"] (defScope sI4) := ⟨rfl, rfl, rfl, by decide +kernel, rfl, by decide +kernel, by decide +kernel⟩
theorem scI5 : FnScope ["self", "index"] ["self", "index"] (defScope sI5) := ⟨rfl, rfl, rfl, by decide +kernel, rfl, by decide +kernel, by decide +kernel⟩
theorem scI6 : FnScope ["self", "index"] ["self", "index"] (defScope sI6) := ⟨rfl, rfl, rfl, by decide +kernel, rfl, by decide +kernel, by decide +kernel⟩
theorem scI7 : FnScope ["self", "field"] ["self", "field"] (defScope sI7) := ⟨rfl, rfl, rfl, by decide +kernel, rfl, by decide +kernel, by decide +kernel⟩
theorem scI8 : FnScope ["self", "version"] ["self", "version"] (defScope sI8) := ⟨rfl, rfl, rfl, by decide +kernel, rfl, by decide +kernel, by decide +kernel⟩
section
variable {P : Program} {w : World} {K : PySem.W.Frag} {mg : Str → Option Value} {base : Heap}

theorem ok_i0 {C f : Addr} {fd : FuncData} (F : Fun K "__init__" "BadText.__init__" sI0 f fd) (T : XIni K C f bmVE "ValueError.__new__" "line") : FnOk P w K mg base CX0 1 f fd ["self", "line"] (spIni C "line") := by
  refine F.ok scI0 (fun vs H Q E h => ?_) (fun cdv A outer s H vs Q E hr h => ?_)
  · obtain ⟨a, y, rfl, _⟩ := h
    rfl
  · obtain ⟨a, y, rfl, ha, q⟩ := h
    exact ⟨_, pss_one (ps_put T PySem.F.store_ValueError (pv 0) (pv 1)), _, rfl, _, rfl, a, rfl, ha, q⟩
theorem ok_i1 {C f : Addr} {fd : FuncData} (F : Fun K "__init__" "BadGame.__init__" sI1 f fd) (T : XIni K C f bmVE "ValueError.__new__" "error") : FnOk P w K mg base CX0 1 f fd ["self", "error"] (spIni C "error") := by
  refine F.ok scI1 (fun vs H Q E h => ?_) (fun cdv A outer s H vs Q E hr h => ?_)
  · obtain ⟨a, y, rfl, _⟩ := h
    rfl
  · obtain ⟨a, y, rfl, ha, q⟩ := h
    exact ⟨_, pss_one (ps_put T PySem.F.store_ValueError (pv 0) (pv 1)), _, rfl, _, rfl, a, rfl, ha, q⟩
theorem ok_i2 {C f : Addr} {fd : FuncData} (F : Fun K "__init__" "BadPlan.__init__" sI2 f fd) (T : XIni K C f bmVE "ValueError.__new__" "error") : FnOk P w K mg base CX0 1 f fd ["self", "error"] (spIni C "error") := by
  refine F.ok scI2 (fun vs H Q E h => ?_) (fun cdv A outer s H vs Q E hr h => ?_)
  · obtain ⟨a, y, rfl, _⟩ := h
    rfl
  · obtain ⟨a, y, rfl, ha, q⟩ := h
    exact ⟨_, pss_one (ps_put T PySem.F.store_ValueError (pv 0) (pv 1)), _, rfl, _, rfl, a, rfl, ha, q⟩
theorem ok_i3 {C f : Addr} {fd : FuncData} (F : Fun K "__init__" "BadWorld.__init__" sI3 f fd) (T : XIni K C f bmVE "ValueError.__new__" "world") : FnOk P w K mg base CX0 1 f fd ["self", "world"] (spIni C "world") := by
  refine F.ok scI3 (fun vs H Q E h => ?_) (fun cdv A outer s H vs Q E hr h => ?_)
  · obtain ⟨a, y, rfl, _⟩ := h
    rfl
  · obtain ⟨a, y, rfl, ha, q⟩ := h
    exact ⟨_, pss_one (ps_put T PySem.F.store_ValueError (pv 0) (pv 1)), _, rfl, _, rfl, a, rfl, ha, q⟩
theorem ok_i4 {C f : Addr} {fd : FuncData} (F : Fun K "__init__" "Unsafe.__init__" sI4 f fd) (T : XIni K C f bmVE "ValueError.__new__" "depth") : FnOk P w K mg base CX0 1 f fd ["self", "depth"] (spIni C "depth") := by
  refine F.ok scI4 (fun vs H Q E h => ?_) (fun cdv A outer s H vs Q E hr h => ?_)
  · obtain ⟨a, y, rfl, _⟩ := h
    rfl
  · obtain ⟨a, y, rfl, ha, q⟩ := h
    exact ⟨_, pss_one (ps_put T PySem.F.store_ValueError (pv 0) (pv 1)), _, rfl, _, rfl, a, rfl, ha, q⟩
theorem ok_i5 {C f : Addr} {fd : FuncData} (F : Fun K "__init__" "BadEdit.__init__" sI5 f fd) (T : XIni K C f bmVE "ValueError.__new__" "index") : FnOk P w K mg base CX0 1 f fd ["self", "index"] (spIni C "index") := by
  refine F.ok scI5 (fun vs H Q E h => ?_) (fun cdv A outer s H vs Q E hr h => ?_)
  · obtain ⟨a, y, rfl, _⟩ := h
    rfl
  · obtain ⟨a, y, rfl, ha, q⟩ := h
    exact ⟨_, pss_one (ps_put T PySem.F.store_ValueError (pv 0) (pv 1)), _, rfl, _, rfl, a, rfl, ha, q⟩
theorem ok_i6 {C f : Addr} {fd : FuncData} (F : Fun K "__init__" "Rejected.__init__" sI6 f fd) (T : XIni K C f bmVE "ValueError.__new__" "index") : FnOk P w K mg base CX0 1 f fd ["self", "index"] (spIni C "index") := by
  refine F.ok scI6 (fun vs H Q E h => ?_) (fun cdv A outer s H vs Q E hr h => ?_)
  · obtain ⟨a, y, rfl, _⟩ := h
    rfl
  · obtain ⟨a, y, rfl, ha, q⟩ := h
    exact ⟨_, pss_one (ps_put T PySem.F.store_ValueError (pv 0) (pv 1)), _, rfl, _, rfl, a, rfl, ha, q⟩
theorem ok_i7 {C f : Addr} {fd : FuncData} (F : Fun K "__init__" "NoField.__init__" sI7 f fd) (T : XIni K C f bmLE "LookupError.__new__" "field") : FnOk P w K mg base CX0 1 f fd ["self", "field"] (spIni C "field") := by
  refine F.ok scI7 (fun vs H Q E h => ?_) (fun cdv A outer s H vs Q E hr h => ?_)
  · obtain ⟨a, y, rfl, _⟩ := h
    rfl
  · obtain ⟨a, y, rfl, ha, q⟩ := h
    exact ⟨_, pss_one (ps_put T PySem.F.store_LookupError (pv 0) (pv 1)), _, rfl, _, rfl, a, rfl, ha, q⟩
theorem ok_i8 {C f : Addr} {fd : FuncData} (F : Fun K "__init__" "NoVersion.__init__" sI8 f fd) (T : XIni K C f bmLE "LookupError.__new__" "version") : FnOk P w K mg base CX0 1 f fd ["self", "version"] (spIni C "version") := by
  refine F.ok scI8 (fun vs H Q E h => ?_) (fun cdv A outer s H vs Q E hr h => ?_)
  · obtain ⟨a, y, rfl, _⟩ := h
    rfl
  · obtain ⟨a, y, rfl, ha, q⟩ := h
    exact ⟨_, pss_one (ps_put T PySem.F.store_LookupError (pv 0) (pv 1)), _, rfl, _, rfl, a, rfl, ha, q⟩
end
/-! ### the two helpers -/
abbrev sFields : Stmt := topS 34
abbrev sKinds : Stmt := topS 35
abbrev sLaw : Stmt := topS 36
theorem scF : FnScope ["_law_value", "_law_made", "_law_told"] ["_law_value"] (defScope sFields) := ⟨rfl, rfl, rfl, by decide +kernel, rfl, by decide +kernel, by decide +kernel⟩
theorem scK : FnScope ["_law_error", "_law_found"] ["_law_error"] (defScope sKinds) := ⟨rfl, rfl, rfl, by decide +kernel, rfl, by decide +kernel, by decide +kernel⟩
theorem scL : FnScope ["_law_script", "_law_deck_here", "_law_plain", "_law_turn", "_law_value", "_law_made", "_law_told", "_law_k", "_law_error", "_law_is_look", "_law_due", "_law_held", "_law_own"] ["_law_script"] (defScope sLaw) := ⟨rfl, rfl, rfl, by decide +kernel, rfl, by decide +kernel, by decide +kernel⟩
def spFields (K : PySem.W.Frag) : Sp := fun vs H Q _ => ∃ v : V, vs = [v] ∧ ∀ (H' : Hp) (p m t : Addr) (es : List Addr), Same H H' → H p = none → H m = none → H t = none → H' p = some (.tup [.ref m, .ref t]) → H' m = some (.lst (es.map V.ref)) → es.length = 9 →
  (∀ (i : Nat) (e : Addr), es[i]? = some e → IsX H' e (Cl K i)) → H' t = some (.lst (List.replicate 9 v)) → Q (.ref p) H'
def spKinds (K : PySem.W.Frag) : Sp := fun vs H Q _ => ∃ (e : Addr) (i : Nat), vs = [.ref e] ∧ i < 15 ∧ IsX H e (Cl K i) ∧ ∀ (H' : Hp) (p : Addr), Same H H' → H p = none → H' p = some (.lst ((List.range 16).map fun j => V.bl (isOf i j))) → Q (.ref p) H'
/-- the __init__ defs -/
structure Inis (K : PySem.W.Frag) : Prop where
  f0 : ∃ fd, Fun K "__init__" "BadText.__init__" sI0 (He.ma K (He.ga K "BadText") "__init__") fd
  f1 : ∃ fd, Fun K "__init__" "BadGame.__init__" sI1 (He.ma K (He.ga K "BadGame") "__init__") fd
  f2 : ∃ fd, Fun K "__init__" "BadPlan.__init__" sI2 (He.ma K (He.ga K "BadPlan") "__init__") fd
  f3 : ∃ fd, Fun K "__init__" "BadWorld.__init__" sI3 (He.ma K (He.ga K "BadWorld") "__init__") fd
  f4 : ∃ fd, Fun K "__init__" "Unsafe.__init__" sI4 (He.ma K (He.ga K "Unsafe") "__init__") fd
  f5 : ∃ fd, Fun K "__init__" "BadEdit.__init__" sI5 (He.ma K (He.ga K "BadEdit") "__init__") fd
  f6 : ∃ fd, Fun K "__init__" "Rejected.__init__" sI6 (He.ma K (He.ga K "Rejected") "__init__") fd
  f7 : ∃ fd, Fun K "__init__" "NoField.__init__" sI7 (He.ma K (He.ga K "NoField") "__init__") fd
  f8 : ∃ fd, Fun K "__init__" "NoVersion.__init__" sI8 (He.ma K (He.ga K "NoVersion") "__init__") fd
section
variable {P : Program} {w : World} {K : PySem.W.Frag} {mg : Str → Option Value} {base : Heap}
theorem ok_fields {f : Addr} {fd : FuncData} (F : Fun K "_law_fields" "_law_fields" sFields f fd) (T : Txt K mg) (N : Inis K) : FnOk P w K mg base CX0 3 f fd ["_law_value"] (spFields K) := by
  obtain ⟨fd0, F0⟩ := N.f0
  have T0 : XIni K (He.ga K "BadText") (He.ma K (He.ga K "BadText") "__init__") bmVE "ValueError.__new__" "line" := T.ini _ (List.mem_of_getElem? (i := 0) rfl)
  have G0 : FnOk P w K mg base CX0 1 _ fd0 ["self", "line"] (spIni (He.ga K "BadText") "line") := ok_i0 F0 T0
  have b0 : Binds K fd0 ["self", "line"] [] := F0.binds (ps := ["self", "line"]) fun _ _ _ _ _ _ us hl => match us, hl with | [_, _], _ => rfl
  have g0 : mg "BadText" = some (.ref (He.ga K "BadText")) := T.glo _ (List.mem_of_getElem? (i := 0) rfl)
  obtain ⟨fd1, F1⟩ := N.f1
  have T1 : XIni K (He.ga K "BadGame") (He.ma K (He.ga K "BadGame") "__init__") bmVE "ValueError.__new__" "error" := T.ini _ (List.mem_of_getElem? (i := 1) rfl)
  have G1 : FnOk P w K mg base CX0 1 _ fd1 ["self", "error"] (spIni (He.ga K "BadGame") "error") := ok_i1 F1 T1
  have b1 : Binds K fd1 ["self", "error"] [] := F1.binds (ps := ["self", "error"]) fun _ _ _ _ _ _ us hl => match us, hl with | [_, _], _ => rfl
  have g1 : mg "BadGame" = some (.ref (He.ga K "BadGame")) := T.glo _ (List.mem_of_getElem? (i := 1) rfl)
  obtain ⟨fd2, F2⟩ := N.f2
  have T2 : XIni K (He.ga K "BadPlan") (He.ma K (He.ga K "BadPlan") "__init__") bmVE "ValueError.__new__" "error" := T.ini _ (List.mem_of_getElem? (i := 2) rfl)
  have G2 : FnOk P w K mg base CX0 1 _ fd2 ["self", "error"] (spIni (He.ga K "BadPlan") "error") := ok_i2 F2 T2
  have b2 : Binds K fd2 ["self", "error"] [] := F2.binds (ps := ["self", "error"]) fun _ _ _ _ _ _ us hl => match us, hl with | [_, _], _ => rfl
  have g2 : mg "BadPlan" = some (.ref (He.ga K "BadPlan")) := T.glo _ (List.mem_of_getElem? (i := 2) rfl)
  obtain ⟨fd3, F3⟩ := N.f3
  have T3 : XIni K (He.ga K "BadWorld") (He.ma K (He.ga K "BadWorld") "__init__") bmVE "ValueError.__new__" "world" := T.ini _ (List.mem_of_getElem? (i := 3) rfl)
  have G3 : FnOk P w K mg base CX0 1 _ fd3 ["self", "world"] (spIni (He.ga K "BadWorld") "world") := ok_i3 F3 T3
  have b3 : Binds K fd3 ["self", "world"] [] := F3.binds (ps := ["self", "world"]) fun _ _ _ _ _ _ us hl => match us, hl with | [_, _], _ => rfl
  have g3 : mg "BadWorld" = some (.ref (He.ga K "BadWorld")) := T.glo _ (List.mem_of_getElem? (i := 3) rfl)
  obtain ⟨fd4, F4⟩ := N.f4
  have T4 : XIni K (He.ga K "Unsafe") (He.ma K (He.ga K "Unsafe") "__init__") bmVE "ValueError.__new__" "depth" := T.ini _ (List.mem_of_getElem? (i := 4) rfl)
  have G4 : FnOk P w K mg base CX0 1 _ fd4 ["self", "depth"] (spIni (He.ga K "Unsafe") "depth") := ok_i4 F4 T4
  have b4 : Binds K fd4 ["self", "depth"] [] := F4.binds (ps := ["self", "depth"]) fun _ _ _ _ _ _ us hl => match us, hl with | [_, _], _ => rfl
  have g4 : mg "Unsafe" = some (.ref (He.ga K "Unsafe")) := T.glo _ (List.mem_of_getElem? (i := 4) rfl)
  obtain ⟨fd5, F5⟩ := N.f5
  have T5 : XIni K (He.ga K "BadEdit") (He.ma K (He.ga K "BadEdit") "__init__") bmVE "ValueError.__new__" "index" := T.ini _ (List.mem_of_getElem? (i := 5) rfl)
  have G5 : FnOk P w K mg base CX0 1 _ fd5 ["self", "index"] (spIni (He.ga K "BadEdit") "index") := ok_i5 F5 T5
  have b5 : Binds K fd5 ["self", "index"] [] := F5.binds (ps := ["self", "index"]) fun _ _ _ _ _ _ us hl => match us, hl with | [_, _], _ => rfl
  have g5 : mg "BadEdit" = some (.ref (He.ga K "BadEdit")) := T.glo _ (List.mem_of_getElem? (i := 5) rfl)
  obtain ⟨fd6, F6⟩ := N.f6
  have T6 : XIni K (He.ga K "Rejected") (He.ma K (He.ga K "Rejected") "__init__") bmVE "ValueError.__new__" "index" := T.ini _ (List.mem_of_getElem? (i := 6) rfl)
  have G6 : FnOk P w K mg base CX0 1 _ fd6 ["self", "index"] (spIni (He.ga K "Rejected") "index") := ok_i6 F6 T6
  have b6 : Binds K fd6 ["self", "index"] [] := F6.binds (ps := ["self", "index"]) fun _ _ _ _ _ _ us hl => match us, hl with | [_, _], _ => rfl
  have g6 : mg "Rejected" = some (.ref (He.ga K "Rejected")) := T.glo _ (List.mem_of_getElem? (i := 6) rfl)
  obtain ⟨fd7, F7⟩ := N.f7
  have T7 : XIni K (He.ga K "NoField") (He.ma K (He.ga K "NoField") "__init__") bmLE "LookupError.__new__" "field" := T.ini _ (List.mem_of_getElem? (i := 7) rfl)
  have G7 : FnOk P w K mg base CX0 1 _ fd7 ["self", "field"] (spIni (He.ga K "NoField") "field") := ok_i7 F7 T7
  have b7 : Binds K fd7 ["self", "field"] [] := F7.binds (ps := ["self", "field"]) fun _ _ _ _ _ _ us hl => match us, hl with | [_, _], _ => rfl
  have g7 : mg "NoField" = some (.ref (He.ga K "NoField")) := T.glo _ (List.mem_of_getElem? (i := 7) rfl)
  obtain ⟨fd8, F8⟩ := N.f8
  have T8 : XIni K (He.ga K "NoVersion") (He.ma K (He.ga K "NoVersion") "__init__") bmLE "LookupError.__new__" "version" := T.ini _ (List.mem_of_getElem? (i := 8) rfl)
  have G8 : FnOk P w K mg base CX0 1 _ fd8 ["self", "version"] (spIni (He.ga K "NoVersion") "version") := ok_i8 F8 T8
  have b8 : Binds K fd8 ["self", "version"] [] := F8.binds (ps := ["self", "version"]) fun _ _ _ _ _ _ us hl => match us, hl with | [_, _], _ => rfl
  have g8 : mg "NoVersion" = some (.ref (He.ga K "NoVersion")) := T.glo _ (List.mem_of_getElem? (i := 8) rfl)
  refine F.ok scF (fun vs H Q E h => ?_) (fun cdv A outer s H vs Q E hr h => ?_)
  · obtain ⟨v, rfl, _⟩ := h
    rfl
  · obtain ⟨v, rfl, q⟩ := h
    have nd := scF.nd
    refine ⟨_, pss_cons (ps_set (i := 1) nd rfl (Or.inl rfl) (pe_lst (pa_cons (pe_new T0 PySem.F.excBase_ValueError G0 hr b0 pass0 (by rfl) g0 (pa_cons (pv 0) pa_nil)) (pa_cons (pe_new T1 PySem.F.excBase_ValueError G1 hr b1 pass0 (by rfl) g1 (pa_cons (pv 0) pa_nil)) (pa_cons (pe_new T2 PySem.F.excBase_ValueError G2 hr b2 pass0 (by rfl) g2 (pa_cons (pv 0) pa_nil)) (pa_cons (pe_new T3 PySem.F.excBase_ValueError G3 hr b3 pass0 (by rfl) g3 (pa_cons (pv 0) pa_nil)) (pa_cons (pe_new T4 PySem.F.excBase_ValueError G4 hr b4 pass0 (by rfl) g4 (pa_cons (pv 0) pa_nil)) (pa_cons (pe_new T5 PySem.F.excBase_ValueError G5 hr b5 pass0 (by rfl) g5 (pa_cons (pv 0) pa_nil)) pa_nil))))))))
      (pss_cons (ps_expr (pe_bm PySem.F.plainAttrs_list PySem.F.slot_list_extend PySem.F.type_list_extend mt_extend (pv 1) (pa_cons (pe_lst (pa_cons (pe_new T6 PySem.F.excBase_ValueError G6 hr b6 pass0 (by rfl) g6 (pa_cons (pv 0) pa_nil)) (pa_cons (pe_new T7 PySem.F.excBase_LookupError G7 hr b7 pass0 (by rfl) g7 (pa_cons (pv 0) pa_nil)) (pa_cons (pe_new T8 PySem.F.excBase_LookupError G8 hr b8 pass0 (by rfl) g8 (pa_cons (pv 0) pa_nil)) pa_nil)))) pa_nil)))
      (pss_cons (ps_set (i := 2) nd rfl (Or.inl rfl) (pe_lst (pa_cons (pe_att (pe_ix ix_list (pv 1) pe_int (fun _ _ => rfl))) (pa_cons (pe_att (pe_ix ix_list (pv 1) pe_int (fun _ _ => rfl))) (pa_cons (pe_att (pe_ix ix_list (pv 1) pe_int (fun _ _ => rfl))) (pa_cons (pe_att (pe_ix ix_list (pv 1) pe_int (fun _ _ => rfl))) (pa_cons (pe_att (pe_ix ix_list (pv 1) pe_int (fun _ _ => rfl))) (pa_cons (pe_att (pe_ix ix_list (pv 1) pe_int (fun _ _ => rfl))) (pa_cons (pe_att (pe_ix ix_list (pv 1) pe_int (fun _ _ => rfl))) pa_nil)))))))))
      (pss_one (ps_ret (pe_tup (pa_cons (pv 1) (pa_cons (pe_op op_cat (pv 2) (pe_lst (pa_cons (pe_att (pe_ix ix_list (pv 1) pe_int (fun _ _ => rfl))) (pa_cons (pe_att (pe_ix ix_list (pv 1) pe_int (fun _ _ => rfl))) pa_nil)))) pa_nil))))))), ?_⟩
    -- six errors, a list of them
    refine ⟨v, rfl, new_ok fun H0 a0 s0 n0 e0 => ?_⟩
    refine ⟨v, rfl, new_ok fun H1 a1 s1 n1 e1 => ?_⟩
    refine ⟨v, rfl, new_ok fun H2 a2 s2 n2 e2 => ?_⟩
    refine ⟨v, rfl, new_ok fun H3 a3 s3 n3 e3 => ?_⟩
    refine ⟨v, rfl, new_ok fun H4 a4 s4 n4 e4 => ?_⟩
    refine ⟨v, rfl, new_ok fun H5 a5 s5 n5 e5 => ?_⟩
    refine ⟨by show 6 ≤ sizeLine; decide, fun m nm => ?_⟩
    have sm : Same H5 (upd H5 m (.lst [.ref a0, .ref a1, .ref a2, .ref a3, .ref a4, .ref a5])) := same_new nm
    have hm : (upd H5 m (.lst [.ref a0, .ref a1, .ref a2, .ref a3, .ref a4, .ref a5])) m = some (.lst [.ref a0, .ref a1, .ref a2, .ref a3, .ref a4, .ref a5]) := upd_same
    generalize upd H5 m (.lst [.ref a0, .ref a1, .ref a2, .ref a3, .ref a4, .ref a5]) = Hm at sm hm ⊢
    -- made.extend([..])
    refine ⟨_, rfl, .inl ⟨rfl, _, .inl (.inl hm)⟩, ?_⟩
    refine ⟨v, rfl, new_ok fun H6 a6 s6 n6 e6 => ?_⟩
    refine ⟨v, rfl, new_ok fun H7 a7 s7 n7 e7 => ?_⟩
    refine ⟨v, rfl, new_ok fun H8 a8 s8 n8 e8 => ?_⟩
    refine ⟨by show 3 ≤ sizeLine; decide, fun x nx => ?_⟩
    have hm8 := s8 _ _ (s7 _ _ (s6 _ _ hm))
    have mx : m ≠ x := ne_of_none hm8 nx
    refine ⟨m, x, _, _, rfl, rfl, by rw [upd_ne mx]; exact hm8, upd_same, by show 6 + 3 ≤ sizeLine; decide, ?_⟩
    -- what all of it leaves
    have sx : Same H8 (upd H8 x (.lst [.ref a6, .ref a7, .ref a8])) := same_new nx
    generalize hHz : upd (upd H8 x (.lst [.ref a6, .ref a7, .ref a8])) m (.lst ([.ref a0, .ref a1, .ref a2, .ref a3, .ref a4, .ref a5] ++ [.ref a6, .ref a7, .ref a8])) = Hz
    have hz : Hz m = some (.lst [.ref a0, .ref a1, .ref a2, .ref a3, .ref a4, .ref a5, .ref a6, .ref a7, .ref a8]) := by rw [← hHz, upd_same]; rfl
    have oz : ∀ b o, H8 b = some o → b ≠ m → Hz b = some o := fun b o hb hbm => by rw [← hHz, upd_ne hbm]; exact sx b o hb
    clear hHz
    have nmH : H m = none := s0.free (s1.free (s2.free (s3.free (s4.free (s5.free nm)))))
    have sH5 : Same H H5 := s0.trans (s1.trans (s2.trans (s3.trans (s4.trans s5))))
    have sH8 : Same H H8 := sH5.trans (sm.trans (s6.trans (s7.trans s8)))
    have sHz : Same H Hz := fun b o hb => oz b o (sH8 b o hb) (ne_of_none hb nmH)
    have E0 : ErrAt H8 a0 _ _ v := e0.up (s1.trans (s2.trans (s3.trans (s4.trans (s5.trans (sm.trans (s6.trans (s7.trans s8))))))))
    have E1 : ErrAt H8 a1 _ _ v := e1.up (s2.trans (s3.trans (s4.trans (s5.trans (sm.trans (s6.trans (s7.trans s8)))))))
    have E2 : ErrAt H8 a2 _ _ v := e2.up (s3.trans (s4.trans (s5.trans (sm.trans (s6.trans (s7.trans s8))))))
    have E3 : ErrAt H8 a3 _ _ v := e3.up (s4.trans (s5.trans (sm.trans (s6.trans (s7.trans s8)))))
    have E4 : ErrAt H8 a4 _ _ v := e4.up (s5.trans (sm.trans (s6.trans (s7.trans s8))))
    have E5 : ErrAt H8 a5 _ _ v := e5.up (sm.trans (s6.trans (s7.trans s8)))
    have E6 : ErrAt H8 a6 _ _ v := e6.up (s7.trans s8)
    have E7 : ErrAt H8 a7 _ _ v := e7.up s8
    have E8 : ErrAt H8 a8 _ _ v := e8
    have Z0 : ErrAt Hz a0 (He.ga K "BadText") "line" v := E0.but oz hm8
    have Z1 : ErrAt Hz a1 (He.ga K "BadGame") "error" v := E1.but oz hm8
    have Z2 : ErrAt Hz a2 (He.ga K "BadPlan") "error" v := E2.but oz hm8
    have Z3 : ErrAt Hz a3 (He.ga K "BadWorld") "world" v := E3.but oz hm8
    have Z4 : ErrAt Hz a4 (He.ga K "Unsafe") "depth" v := E4.but oz hm8
    have Z5 : ErrAt Hz a5 (He.ga K "BadEdit") "index" v := E5.but oz hm8
    have Z6 : ErrAt Hz a6 (He.ga K "Rejected") "index" v := E6.but oz hm8
    have Z7 : ErrAt Hz a7 (He.ga K "NoField") "field" v := E7.but oz hm8
    have Z8 : ErrAt Hz a8 (He.ga K "NoVersion") "version" v := E8.but oz hm8
    clear E0 e0 E1 e1 E2 e2 E3 e3 E4 e4 E5 e5 E6 e6 E7 e7 E8 e8
    -- told
    obtain ⟨d0, p0, q0⟩ := id Z0
    obtain ⟨d1, p1, q1⟩ := id Z1
    obtain ⟨d2, p2, q2⟩ := id Z2
    obtain ⟨d3, p3, q3⟩ := id Z3
    obtain ⟨d4, p4, q4⟩ := id Z4
    obtain ⟨d5, p5, q5⟩ := id Z5
    obtain ⟨d6, p6, q6⟩ := id Z6
    obtain ⟨d7, p7, q7⟩ := id Z7
    obtain ⟨d8, p8, q8⟩ := id Z8
    refine ⟨_, rfl, m, _, 0, _, rfl, rfl, .inl (.inl hz), rfl, a0, _, _, d0, _, _, v, rfl, T0, p0, q0, ?_⟩
    refine ⟨_, rfl, m, _, 1, _, rfl, rfl, .inl (.inl hz), rfl, a1, _, _, d1, _, _, v, rfl, T1, p1, q1, ?_⟩
    refine ⟨_, rfl, m, _, 2, _, rfl, rfl, .inl (.inl hz), rfl, a2, _, _, d2, _, _, v, rfl, T2, p2, q2, ?_⟩
    refine ⟨_, rfl, m, _, 3, _, rfl, rfl, .inl (.inl hz), rfl, a3, _, _, d3, _, _, v, rfl, T3, p3, q3, ?_⟩
    refine ⟨_, rfl, m, _, 4, _, rfl, rfl, .inl (.inl hz), rfl, a4, _, _, d4, _, _, v, rfl, T4, p4, q4, ?_⟩
    refine ⟨_, rfl, m, _, 5, _, rfl, rfl, .inl (.inl hz), rfl, a5, _, _, d5, _, _, v, rfl, T5, p5, q5, ?_⟩
    refine ⟨_, rfl, m, _, 6, _, rfl, rfl, .inl (.inl hz), rfl, a6, _, _, d6, _, _, v, rfl, T6, p6, q6, ?_⟩
    refine ⟨by show 7 ≤ sizeLine; decide, fun y ny => ?_⟩
    have sy : Same Hz (upd Hz y (.lst [v, v, v, v, v, v, v])) := same_new ny
    have hy : (upd Hz y (.lst [v, v, v, v, v, v, v])) y = some (.lst [v, v, v, v, v, v, v]) := upd_same
    generalize upd Hz y (.lst [v, v, v, v, v, v, v]) = Hy at sy hy ⊢
    -- return made, told + [..]
    refine ⟨_, rfl, _, rfl, ?_⟩
    refine ⟨_, rfl, m, _, 7, _, rfl, rfl, .inl (.inl (sy _ _ hz)), rfl, a7, _, _, d7, _, _, v, rfl, T7, sy _ _ p7, sy _ _ q7, ?_⟩
    refine ⟨_, rfl, m, _, 8, _, rfl, rfl, .inl (.inl (sy _ _ hz)), rfl, a8, _, _, d8, _, _, v, rfl, T8, sy _ _ p8, sy _ _ q8, ?_⟩
    refine ⟨by show 2 ≤ sizeLine; decide, fun u nu => ?_⟩
    have hyu : (upd Hy u (.lst [v, v])) y = some (.lst [v, v, v, v, v, v, v]) := by rw [upd_ne (ne_of_none hy nu)]; exact hy
    refine ⟨y, u, _, _, rfl, rfl, hyu, upd_same, by show 7 + 2 ≤ sizeLine; decide, fun t nt => ⟨by show 2 ≤ sizeLine; decide, fun p np => ?_⟩⟩
    have su : Same Hy (upd Hy u (.lst [v, v])) := same_new nu
    have st := same_new (o := .lst ([v, v, v, v, v, v, v] ++ [v, v])) nt
    have sp := same_new (o := .tup [.ref m, .ref t]) np
    have all := sy.trans (su.trans (st.trans sp))
    have back : ∀ b, Hz b = none → H b = none := fun b e => sHz.free e
    refine q _ p m t [a0, a1, a2, a3, a4, a5, a6, a7, a8] (sHz.trans all) (back _ (sy.free (su.free (st.free np)))) nmH (back _ (sy.free (su.free nt))) upd_same (all _ _ hz) rfl (fun i e he => ?_) (sp _ _ upd_same)
    match i, he with
    | 0, he => obtain rfl : a0 = e := Option.some.inj he; exact (Z0.up all).isX
    | 1, he => obtain rfl : a1 = e := Option.some.inj he; exact (Z1.up all).isX
    | 2, he => obtain rfl : a2 = e := Option.some.inj he; exact (Z2.up all).isX
    | 3, he => obtain rfl : a3 = e := Option.some.inj he; exact (Z3.up all).isX
    | 4, he => obtain rfl : a4 = e := Option.some.inj he; exact (Z4.up all).isX
    | 5, he => obtain rfl : a5 = e := Option.some.inj he; exact (Z5.up all).isX
    | 6, he => obtain rfl : a6 = e := Option.some.inj he; exact (Z6.up all).isX
    | 7, he => obtain rfl : a7 = e := Option.some.inj he; exact (Z7.up all).isX
    | 8, he => obtain rfl : a8 = e := Option.some.inj he; exact (Z8.up all).isX
    | i + 9, he => simp at he
end
section
variable {P : Program} {w : World} {K : PySem.W.Frag} {mg : Str → Option Value} {base : Heap}
theorem ok_kinds {f : Addr} {fd : FuncData} (F : Fun K "_law_kinds" "_law_kinds" sKinds f fd) (T : Txt K mg) : FnOk P w K mg base CX0 1 f fd ["_law_error"] (spKinds K) := by
  have mi : mg "isinstance" = none := T.fre _ (List.mem_of_getElem? (i := 3) rfl)
  have g0 : mg "BadText" = some (.ref (He.ga K "BadText")) := T.glo _ (List.mem_of_getElem? (i := 0) rfl)
  have g1 : mg "BadGame" = some (.ref (He.ga K "BadGame")) := T.glo _ (List.mem_of_getElem? (i := 1) rfl)
  have g2 : mg "BadPlan" = some (.ref (He.ga K "BadPlan")) := T.glo _ (List.mem_of_getElem? (i := 2) rfl)
  have g3 : mg "BadWorld" = some (.ref (He.ga K "BadWorld")) := T.glo _ (List.mem_of_getElem? (i := 3) rfl)
  have g4 : mg "Unsafe" = some (.ref (He.ga K "Unsafe")) := T.glo _ (List.mem_of_getElem? (i := 4) rfl)
  have g5 : mg "BadEdit" = some (.ref (He.ga K "BadEdit")) := T.glo _ (List.mem_of_getElem? (i := 5) rfl)
  have g6 : mg "Rejected" = some (.ref (He.ga K "Rejected")) := T.glo _ (List.mem_of_getElem? (i := 6) rfl)
  have g7 : mg "NoField" = some (.ref (He.ga K "NoField")) := T.glo _ (List.mem_of_getElem? (i := 7) rfl)
  have g8 : mg "NoVersion" = some (.ref (He.ga K "NoVersion")) := T.glo _ (List.mem_of_getElem? (i := 8) rfl)
  have g9 : mg "BadDepths" = some (.ref (He.ga K "BadDepths")) := T.glo _ (List.mem_of_getElem? (i := 9) rfl)
  have g10 : mg "Busy" = some (.ref (He.ga K "Busy")) := T.glo _ (List.mem_of_getElem? (i := 10) rfl)
  have g11 : mg "TooManyEdits" = some (.ref (He.ga K "TooManyEdits")) := T.glo _ (List.mem_of_getElem? (i := 11) rfl)
  have g12 : mg "NothingToUndo" = some (.ref (He.ga K "NothingToUndo")) := T.glo _ (List.mem_of_getElem? (i := 12) rfl)
  have g13 : mg "NothingToRedo" = some (.ref (He.ga K "NothingToRedo")) := T.glo _ (List.mem_of_getElem? (i := 13) rfl)
  have g14 : mg "BadEdits" = some (.ref (He.ga K "BadEdits")) := T.glo _ (List.mem_of_getElem? (i := 14) rfl)
  have g15 : mg "SaveError" = some (.ref (He.ga K "SaveError")) := T.glo _ (List.mem_of_getElem? (i := 15) rfl)
  refine F.ok scK (fun vs H Q E h => ?_) (fun cdv A outer s H vs Q E hr h => ?_)
  · obtain ⟨e, i, rfl, _⟩ := h
    rfl
  · obtain ⟨e, i, rfl, hi, hX, q⟩ := h
    have nd := scK.nd
    have TC : XCls K (Cl K i) := by
      have hi2 : i < cnm.length := by show i < 16; omega
      have e1 : cnm[i]? = some (cnm.getD i "") := by rw [List.getD_eq_getElem?_getD, List.getElem?_eq_getElem hi2]; rfl
      exact T.cls _ (List.mem_of_getElem? e1)
    have kt := fun j (hj : j < 18) => T.kit i j (by omega) hj
    refine ⟨_, pss_cons (ps_set (i := 1) nd rfl (Or.inl rfl) (pe_lst (pa_cons (pe_callB (call_isX T.hn T.ht) (by rfl) mi (by decide +kernel) (pa_cons (pv 0) (pa_cons (pe_cls (by rfl) g0) pa_nil))) (pa_cons (pe_callB (call_isX T.hn T.ht) (by rfl) mi (by decide +kernel) (pa_cons (pv 0) (pa_cons (pe_cls (by rfl) g1) pa_nil))) (pa_cons (pe_callB (call_isX T.hn T.ht) (by rfl) mi (by decide +kernel) (pa_cons (pv 0) (pa_cons (pe_cls (by rfl) g2) pa_nil))) (pa_cons (pe_callB (call_isX T.hn T.ht) (by rfl) mi (by decide +kernel) (pa_cons (pv 0) (pa_cons (pe_cls (by rfl) g3) pa_nil))) pa_nil))))))
      (pss_cons (ps_expr (pe_bm PySem.F.plainAttrs_list PySem.F.slot_list_extend PySem.F.type_list_extend mt_extend (pv 1) (pa_cons (pe_lst (pa_cons (pe_callB (call_isX T.hn T.ht) (by rfl) mi (by decide +kernel) (pa_cons (pv 0) (pa_cons (pe_cls (by rfl) g4) pa_nil))) (pa_cons (pe_callB (call_isX T.hn T.ht) (by rfl) mi (by decide +kernel) (pa_cons (pv 0) (pa_cons (pe_cls (by rfl) g5) pa_nil))) (pa_cons (pe_callB (call_isX T.hn T.ht) (by rfl) mi (by decide +kernel) (pa_cons (pv 0) (pa_cons (pe_cls (by rfl) g6) pa_nil))) pa_nil)))) pa_nil)))
      (pss_cons (ps_expr (pe_bm PySem.F.plainAttrs_list PySem.F.slot_list_extend PySem.F.type_list_extend mt_extend (pv 1) (pa_cons (pe_lst (pa_cons (pe_callB (call_isX T.hn T.ht) (by rfl) mi (by decide +kernel) (pa_cons (pv 0) (pa_cons (pe_cls (by rfl) g7) pa_nil))) (pa_cons (pe_callB (call_isX T.hn T.ht) (by rfl) mi (by decide +kernel) (pa_cons (pv 0) (pa_cons (pe_cls (by rfl) g8) pa_nil))) (pa_cons (pe_callB (call_isX T.hn T.ht) (by rfl) mi (by decide +kernel) (pa_cons (pv 0) (pa_cons (pe_cls (by rfl) g9) pa_nil))) pa_nil)))) pa_nil)))
      (pss_cons (ps_expr (pe_bm PySem.F.plainAttrs_list PySem.F.slot_list_extend PySem.F.type_list_extend mt_extend (pv 1) (pa_cons (pe_lst (pa_cons (pe_callB (call_isX T.hn T.ht) (by rfl) mi (by decide +kernel) (pa_cons (pv 0) (pa_cons (pe_cls (by rfl) g10) pa_nil))) (pa_cons (pe_callB (call_isX T.hn T.ht) (by rfl) mi (by decide +kernel) (pa_cons (pv 0) (pa_cons (pe_cls (by rfl) g11) pa_nil))) (pa_cons (pe_callB (call_isX T.hn T.ht) (by rfl) mi (by decide +kernel) (pa_cons (pv 0) (pa_cons (pe_cls (by rfl) g12) pa_nil))) pa_nil)))) pa_nil)))
      (pss_one (ps_ret (pe_op op_cat (pv 1) (pe_lst (pa_cons (pe_callB (call_isX T.hn T.ht) (by rfl) mi (by decide +kernel) (pa_cons (pv 0) (pa_cons (pe_cls (by rfl) g13) pa_nil))) (pa_cons (pe_callB (call_isX T.hn T.ht) (by rfl) mi (by decide +kernel) (pa_cons (pv 0) (pa_cons (pe_cls (by rfl) g14) pa_nil))) (pa_cons (pe_callB (call_isX T.hn T.ht) (by rfl) mi (by decide +kernel) (pa_cons (pv 0) (pa_cons (pe_cls (by rfl) g15) pa_nil))) pa_nil)))))))))), ?_⟩
    refine ⟨_, rfl, e, _, _, _, _, rfl, .own _, hX, TC, kt 0 (by decide), ?_⟩
    refine ⟨_, rfl, e, _, _, _, _, rfl, .own _, hX, TC, kt 1 (by decide), ?_⟩
    refine ⟨_, rfl, e, _, _, _, _, rfl, .own _, hX, TC, kt 2 (by decide), ?_⟩
    refine ⟨_, rfl, e, _, _, _, _, rfl, .own _, hX, TC, kt 3 (by decide), ?_⟩
    refine ⟨by show 4 ≤ sizeLine; decide, fun m nm => ?_⟩
    have s0 := same_new (o := .lst [.bl (isOf i 0), .bl (isOf i 1), .bl (isOf i 2), .bl (isOf i 3)]) nm
    have m0 : (upd H m (.lst [.bl (isOf i 0), .bl (isOf i 1), .bl (isOf i 2), .bl (isOf i 3)])) m = _ := upd_same
    have e0 := m0
    generalize upd H m (.lst [.bl (isOf i 0), .bl (isOf i 1), .bl (isOf i 2), .bl (isOf i 3)]) = H0 at s0 m0 ⊢
    have X0 : IsX H0 e (Cl K i) := IsX.up hX s0
    refine ⟨_, rfl, .inl ⟨rfl, _, .inl (.inl m0)⟩, ?_⟩
    refine ⟨_, rfl, e, _, _, _, _, rfl, .own _, X0, TC, kt 4 (by decide), ?_⟩
    refine ⟨_, rfl, e, _, _, _, _, rfl, .own _, X0, TC, kt 5 (by decide), ?_⟩
    refine ⟨_, rfl, e, _, _, _, _, rfl, .own _, X0, TC, kt 6 (by decide), ?_⟩
    refine ⟨by show 3 ≤ sizeLine; decide, fun x0 y0 => ?_⟩
    have mx0 : m ≠ x0 := ne_of_none m0 y0
    refine ⟨m, x0, _, _, rfl, rfl, by rw [upd_ne mx0]; exact m0, upd_same, by show 4 + 3 ≤ sizeLine; decide, ?_⟩
    have s1 := grown (xs := [.bl (isOf i 0), .bl (isOf i 1), .bl (isOf i 2), .bl (isOf i 3)]) (zs := [.bl (isOf i 4), .bl (isOf i 5), .bl (isOf i 6)]) s0 nm y0
    have m1 : (upd (upd H0 x0 (.lst [.bl (isOf i 4), .bl (isOf i 5), .bl (isOf i 6)])) m (.lst ([.bl (isOf i 0), .bl (isOf i 1), .bl (isOf i 2), .bl (isOf i 3)] ++ [.bl (isOf i 4), .bl (isOf i 5), .bl (isOf i 6)]))) m = some (.lst [.bl (isOf i 0), .bl (isOf i 1), .bl (isOf i 2), .bl (isOf i 3), .bl (isOf i 4), .bl (isOf i 5), .bl (isOf i 6)]) := upd_same
    generalize upd (upd H0 x0 (.lst [.bl (isOf i 4), .bl (isOf i 5), .bl (isOf i 6)])) m (.lst ([.bl (isOf i 0), .bl (isOf i 1), .bl (isOf i 2), .bl (isOf i 3)] ++ [.bl (isOf i 4), .bl (isOf i 5), .bl (isOf i 6)])) = H1 at s1 m1 ⊢
    have X1 : IsX H1 e (Cl K i) := IsX.up hX s1
    refine ⟨_, rfl, .inl ⟨rfl, _, .inl (.inl m1)⟩, ?_⟩
    refine ⟨_, rfl, e, _, _, _, _, rfl, .own _, X1, TC, kt 7 (by decide), ?_⟩
    refine ⟨_, rfl, e, _, _, _, _, rfl, .own _, X1, TC, kt 8 (by decide), ?_⟩
    refine ⟨_, rfl, e, _, _, _, _, rfl, .own _, X1, TC, kt 9 (by decide), ?_⟩
    refine ⟨by show 3 ≤ sizeLine; decide, fun x1 y1 => ?_⟩
    have mx1 : m ≠ x1 := ne_of_none m1 y1
    refine ⟨m, x1, _, _, rfl, rfl, by rw [upd_ne mx1]; exact m1, upd_same, by show 7 + 3 ≤ sizeLine; decide, ?_⟩
    have s2 := grown (xs := [.bl (isOf i 0), .bl (isOf i 1), .bl (isOf i 2), .bl (isOf i 3), .bl (isOf i 4), .bl (isOf i 5), .bl (isOf i 6)]) (zs := [.bl (isOf i 7), .bl (isOf i 8), .bl (isOf i 9)]) s1 nm y1
    have m2 : (upd (upd H1 x1 (.lst [.bl (isOf i 7), .bl (isOf i 8), .bl (isOf i 9)])) m (.lst ([.bl (isOf i 0), .bl (isOf i 1), .bl (isOf i 2), .bl (isOf i 3), .bl (isOf i 4), .bl (isOf i 5), .bl (isOf i 6)] ++ [.bl (isOf i 7), .bl (isOf i 8), .bl (isOf i 9)]))) m = some (.lst [.bl (isOf i 0), .bl (isOf i 1), .bl (isOf i 2), .bl (isOf i 3), .bl (isOf i 4), .bl (isOf i 5), .bl (isOf i 6), .bl (isOf i 7), .bl (isOf i 8), .bl (isOf i 9)]) := upd_same
    generalize upd (upd H1 x1 (.lst [.bl (isOf i 7), .bl (isOf i 8), .bl (isOf i 9)])) m (.lst ([.bl (isOf i 0), .bl (isOf i 1), .bl (isOf i 2), .bl (isOf i 3), .bl (isOf i 4), .bl (isOf i 5), .bl (isOf i 6)] ++ [.bl (isOf i 7), .bl (isOf i 8), .bl (isOf i 9)])) = H2 at s2 m2 ⊢
    have X2 : IsX H2 e (Cl K i) := IsX.up hX s2
    refine ⟨_, rfl, .inl ⟨rfl, _, .inl (.inl m2)⟩, ?_⟩
    refine ⟨_, rfl, e, _, _, _, _, rfl, .own _, X2, TC, kt 10 (by decide), ?_⟩
    refine ⟨_, rfl, e, _, _, _, _, rfl, .own _, X2, TC, kt 11 (by decide), ?_⟩
    refine ⟨_, rfl, e, _, _, _, _, rfl, .own _, X2, TC, kt 12 (by decide), ?_⟩
    refine ⟨by show 3 ≤ sizeLine; decide, fun x2 y2 => ?_⟩
    have mx2 : m ≠ x2 := ne_of_none m2 y2
    refine ⟨m, x2, _, _, rfl, rfl, by rw [upd_ne mx2]; exact m2, upd_same, by show 10 + 3 ≤ sizeLine; decide, ?_⟩
    have s3 := grown (xs := [.bl (isOf i 0), .bl (isOf i 1), .bl (isOf i 2), .bl (isOf i 3), .bl (isOf i 4), .bl (isOf i 5), .bl (isOf i 6), .bl (isOf i 7), .bl (isOf i 8), .bl (isOf i 9)]) (zs := [.bl (isOf i 10), .bl (isOf i 11), .bl (isOf i 12)]) s2 nm y2
    have m3 : (upd (upd H2 x2 (.lst [.bl (isOf i 10), .bl (isOf i 11), .bl (isOf i 12)])) m (.lst ([.bl (isOf i 0), .bl (isOf i 1), .bl (isOf i 2), .bl (isOf i 3), .bl (isOf i 4), .bl (isOf i 5), .bl (isOf i 6), .bl (isOf i 7), .bl (isOf i 8), .bl (isOf i 9)] ++ [.bl (isOf i 10), .bl (isOf i 11), .bl (isOf i 12)]))) m = some (.lst [.bl (isOf i 0), .bl (isOf i 1), .bl (isOf i 2), .bl (isOf i 3), .bl (isOf i 4), .bl (isOf i 5), .bl (isOf i 6), .bl (isOf i 7), .bl (isOf i 8), .bl (isOf i 9), .bl (isOf i 10), .bl (isOf i 11), .bl (isOf i 12)]) := upd_same
    generalize upd (upd H2 x2 (.lst [.bl (isOf i 10), .bl (isOf i 11), .bl (isOf i 12)])) m (.lst ([.bl (isOf i 0), .bl (isOf i 1), .bl (isOf i 2), .bl (isOf i 3), .bl (isOf i 4), .bl (isOf i 5), .bl (isOf i 6), .bl (isOf i 7), .bl (isOf i 8), .bl (isOf i 9)] ++ [.bl (isOf i 10), .bl (isOf i 11), .bl (isOf i 12)])) = H3 at s3 m3 ⊢
    have X3 : IsX H3 e (Cl K i) := IsX.up hX s3
    refine ⟨_, rfl, ?_⟩
    refine ⟨_, rfl, e, _, _, _, _, rfl, .own _, X3, TC, kt 13 (by decide), ?_⟩
    refine ⟨_, rfl, e, _, _, _, _, rfl, .own _, X3, TC, kt 14 (by decide), ?_⟩
    refine ⟨_, rfl, e, _, _, _, _, rfl, .own _, X3, TC, kt 15 (by decide), ?_⟩
    refine ⟨by show 3 ≤ sizeLine; decide, fun x3 y3 => ?_⟩
    refine ⟨m, x3, _, _, rfl, rfl, by rw [upd_ne (ne_of_none m3 y3)]; exact m3, upd_same, by show 13 + 3 ≤ sizeLine; decide, fun p np => ?_⟩
    exact q _ p (s3.trans ((same_new y3).trans (same_new np))) (s3.free ((same_new y3).free np)) upd_same
end
end K00
set_option maxHeartbeats 4000000
namespace K00
open PySem PySem.Spec PyProof.Rows L2 Sb
/-! ### what the law's loops keep -/
def dC : List (Key × V) := [(.inr "c", .int 3)]
/-- a drawn value: data, or the dict -/
def VOk (K : PySem.W.Frag) (H : Hp) (v : V) : Prop := (∃ d, Dp K H v d ∧ Fine d 200 ∧ d.depth ≤ 49) ∨ ∃ dd, v = .ref dd ∧ H dd = some (.dK dC)
theorem VOk.up {K : PySem.W.Frag} {H H' : Hp} {v : V} (h : VOk K H v) (s : Same H H') : VOk K H' v := by
  rcases h with ⟨d, h1, h2⟩ | ⟨dd, h1, h2⟩
  · exact .inl ⟨d, dp_up s d v h1, h2⟩
  · exact .inr ⟨dd, h1, s _ _ h2⟩
theorem repr9 {K : PySem.W.Frag} {H : Hp} {v : V} (hv : VOk K H v) : ∃ txt : Str, ∀ (H' : Hp) (t : Addr) (Q : VK), Same H H' → H' t = some (.lst (List.replicate 9 v)) → Q (.str txt) H' → (rRepr K [.ref t] H' Q ∨ rReprD [.ref t] H' Q) := by
  rcases hv with ⟨d, hd, hf, hp⟩ | ⟨dd, rfl, hdd⟩
  · refine ⟨(PyData.list (List.replicate 9 d)).shown, fun H' t Q s ht q => .inl ?_⟩
    refine repr_fine (d := .list (List.replicate 9 d)) (.lst (.inl (.inl ht)) (dps_rep (dp_up s d v hd) 9)) (fine_rep hf hp 9) (by rw [sizeLine_eq]; omega) q
  · refine ⟨listText (List.replicate 9 (dictText [reprText "c" ++ ": " ++ toString (3 : Int)])), fun H' t Q s ht q => .inr ?_⟩
    exact ⟨t, dd, 8, "c", 3, rfl, ht, s _ _ hdd, by decide, by decide +kernel, by decide +kernel, q⟩
theorem isX_off {H H' : Hp} {d c : Addr} {n : Nat} {e D : Addr} (hD : DeckAt H d c n) (s : Off d c H H') (h : IsX H e D) : IsX H' e D := by
  obtain ⟨ns, h1, h2, _⟩ := hD
  have nl : ∀ (φ : Heap → Prop) (xs : List V), HO.ext φ ≠ .lst xs := fun φ xs z => by cases z
  have mv : ∀ (x : Addr) (φ : Heap → Prop), H x = some (.ext φ) → H' x = some (.ext φ) := fun x φ hx => s x _ hx (ne_of hx h1 (nl _ _)) (ne_of hx h2 (nl _ _))
  rcases h with ⟨dd, fs, q1, q2⟩ | q1
  · exact .inl ⟨dd, fs, mv _ _ q1, mv _ _ q2⟩
  · exact .inr (mv _ _ q1)
structure Ctx (K : PySem.W.Frag) (H : Hp) (d c pl : Addr) (n : Nat) (ps : List Addr) : Prop where
  dk : DeckAt H d c n
  pl : H pl = some (.lst (ps.map V.ref))
  ln : ps.length = 6
  is : ∀ (i : Nat) (e : Addr), ps[i]? = some e → IsX H e (Cl K (9 + i))
theorem Ctx.up {K : PySem.W.Frag} {H H' : Hp} {d c pl : Addr} {n : Nat} {ps : List Addr} (h : Ctx K H d c pl n ps) (s : Same H H') : Ctx K H' d c pl n ps :=
  ⟨h.dk.same s, s _ _ h.pl, h.ln, fun i e q => (h.is i e q).up s⟩
theorem Ctx.off {K : PySem.W.Frag} {H H' : Hp} {d c pl : Addr} {n : Nat} {ps : List Addr} (h : Ctx K H d c pl n ps) (s : Off d c H H') (hD : DeckAt H' d c (n + 1)) : Ctx K H' d c pl (n + 1) ps := by
  have e := h.ln
  obtain ⟨ns, h1, h2, _⟩ := id h.dk
  refine ⟨hD, s _ _ h.pl (ne_of h.pl h1 fun z => ?_) (ne_of h.pl h2 fun z => ?_), e, fun i x q => isX_off h.dk s (h.is i x q)⟩
  · injection z with z
    have := congrArg List.length z
    rw [List.length_map, e] at this
    simp at this
  · injection z with z
    cases ps with
    | nil => simp at e
    | cons p ps =>
      cases ns with
      | nil => simp at z
      | cons m ns => simp at z
theorem look_eq : ∀ k, k < 15 → inV (V.int (0 + ((k : Nat) : Int))) [.int 7, .int 8] = (k == 7 || k == 8) := by decide +kernel
theorem due_eq : ∀ k, k < 15 → (List.range 16).map (isOf k) = ((List.range 15).map fun j => j == k) ++ [!(k == 7 || k == 8)] := by decide +kernel
theorem shaped_k : ∀ k, k < 15 → SeqAt.shaped (.list (((List.range 16).map (isOf k)).map PyData.bool)) = true := by decide +kernel
theorem cnm_mem (k : Nat) (h : k < 16) : cnm.getD k "" ∈ cnm := List.mem_of_getElem? (i := k) (by rw [List.getD_eq_getElem?_getD, List.getElem?_eq_getElem (show k < cnm.length from h)]; rfl)
theorem int_eq (i k : Nat) : decide (V.int (0 + (i : Int)) = V.int (0 + (k : Int))) = (i == k) := by
  rw [dec_int]
  by_cases h : i = k
  · subst h
    simp
  · have h2 : (0 + (i : Int)) ≠ 0 + (k : Int) := by omega
    rw [beq_eq_false_iff_ne.mpr h2, beq_eq_false_iff_ne.mpr h]
def spLaw (K : PySem.W.Frag) : Sp := fun vs H Q _ => ∃ (a : Addr) (ns : List Int), vs = [.ref a] ∧ SqL K H a (ns.map V.int) ∧ ns.length ≤ 63 ∧ ∀ H', Q (.bl true) H'
abbrev FnK (K : PySem.W.Frag) (x : Str) (st : Stmt) : Prop := ∃ fd, Fun K x x st (He.ga K x) fd
section
variable {P : Program} {w : World} {K : PySem.W.Frag} {mg : Str → Option Value} {base : Heap}
theorem ok_law {fd : FuncData} (F : Fun K "law" "law" sLaw (He.ga K "law") fd) (T : Txt K mg) (N : Inis K) (F__law_deck : FnK K "_law_deck" sDeck) (F__law_draw : FnK K "_law_draw" sDraw) (F__law_one : FnK K "_law_one" sOne) (F__law_fields : FnK K "_law_fields" sFields) (F__law_kinds : FnK K "_law_kinds" sKinds) :
    FnG P w K mg base CX0 4 (He.ga K "law") fd ["_law_script"] (spLaw K) := by
  obtain ⟨fdD, F__law_deck⟩ := F__law_deck
  obtain ⟨fdR, F__law_draw⟩ := F__law_draw
  obtain ⟨fdO, F__law_one⟩ := F__law_one
  obtain ⟨fdF, F__law_fields⟩ := F__law_fields
  obtain ⟨fdK, F__law_kinds⟩ := F__law_kinds
  have m_len : mg "len" = none := T.fre _ (List.mem_of_getElem? (i := 0) rfl)
  have m_int : mg "int" = none := T.fre _ (List.mem_of_getElem? (i := 1) rfl)
  have m_abs : mg "abs" = none := T.fre _ (List.mem_of_getElem? (i := 2) rfl)
  have m_isinstance : mg "isinstance" = none := T.fre _ (List.mem_of_getElem? (i := 3) rfl)
  have m_range : mg "range" = none := T.fre _ (List.mem_of_getElem? (i := 4) rfl)
  have m_repr : mg "repr" = none := T.fre _ (List.mem_of_getElem? (i := 5) rfl)
  have mLE : mg "LookupError" = none := T.fre _ (List.mem_of_getElem? (i := 6) rfl)
  have mVE : mg "ValueError" = none := T.fre _ (List.mem_of_getElem? (i := 7) rfl)
  have g__law_deck : mg "_law_deck" = some (.ref (He.ga K "_law_deck")) := T.glo _ (List.mem_of_getElem? (i := 16) rfl)
  have g__law_draw : mg "_law_draw" = some (.ref (He.ga K "_law_draw")) := T.glo _ (List.mem_of_getElem? (i := 17) rfl)
  have g__law_one : mg "_law_one" = some (.ref (He.ga K "_law_one")) := T.glo _ (List.mem_of_getElem? (i := 18) rfl)
  have g__law_fields : mg "_law_fields" = some (.ref (He.ga K "_law_fields")) := T.glo _ (List.mem_of_getElem? (i := 19) rfl)
  have g__law_kinds : mg "_law_kinds" = some (.ref (He.ga K "_law_kinds")) := T.glo _ (List.mem_of_getElem? (i := 20) rfl)
  have b__law_deck : Binds K fdD ["_law_script"] [] := F__law_deck.binds (ps := ["_law_script"]) fun _ _ _ _ _ _ us hl => match us, hl with | [_], _ => rfl
  have b__law_draw : Binds K fdR ["_law_deck_here", "_law_most"] [] := F__law_draw.binds (ps := ["_law_deck_here", "_law_most"]) fun _ _ _ _ _ _ us hl => match us, hl with | [_, _], _ => rfl
  have b__law_one : Binds K fdO ["_law_deck_here", "_law_items"] [] := F__law_one.binds (ps := ["_law_deck_here", "_law_items"]) fun _ _ _ _ _ _ us hl => match us, hl with | [_, _], _ => rfl
  have b__law_fields : Binds K fdF ["_law_value"] [] := F__law_fields.binds (ps := ["_law_value"]) fun _ _ _ _ _ _ us hl => match us, hl with | [_], _ => rfl
  have b__law_kinds : Binds K fdK ["_law_error"] [] := F__law_kinds.binds (ps := ["_law_error"]) fun _ _ _ _ _ _ us hl => match us, hl with | [_], _ => rfl
  have G__law_deck : FnOk P w K mg base CX0 1 _ fdD ["_law_script"] (spDeck K) := ok_deck F__law_deck m_abs
  have G__law_one : FnOk P w K mg base CX0 2 _ fdO ["_law_deck_here", "_law_items"] (spOne K) := ok_one F__law_one F__law_draw b__law_draw g__law_draw m_len m_int
  have G__law_fields : FnOk P w K mg base CX0 3 _ fdF ["_law_value"] (spFields K) := ok_fields F__law_fields T N
  have G__law_kinds : FnOk P w K mg base CX0 1 _ fdK ["_law_error"] (spKinds K) := ok_kinds F__law_kinds T
  have g9 : mg "BadDepths" = some (.ref (He.ga K "BadDepths")) := T.glo _ (List.mem_of_getElem? (i := 9) rfl)
  have g10 : mg "Busy" = some (.ref (He.ga K "Busy")) := T.glo _ (List.mem_of_getElem? (i := 10) rfl)
  have g11 : mg "TooManyEdits" = some (.ref (He.ga K "TooManyEdits")) := T.glo _ (List.mem_of_getElem? (i := 11) rfl)
  have g12 : mg "NothingToUndo" = some (.ref (He.ga K "NothingToUndo")) := T.glo _ (List.mem_of_getElem? (i := 12) rfl)
  have g13 : mg "NothingToRedo" = some (.ref (He.ga K "NothingToRedo")) := T.glo _ (List.mem_of_getElem? (i := 13) rfl)
  have g14 : mg "BadEdits" = some (.ref (He.ga K "BadEdits")) := T.glo _ (List.mem_of_getElem? (i := 14) rfl)
  have g15 : mg "SaveError" = some (.ref (He.ga K "SaveError")) := T.glo _ (List.mem_of_getElem? (i := 15) rfl)
  have x9 : PySem.W.excIn K (He.ga K "BadDepths") bmVE "ValueError.__new__" = true := T.pln _ (List.mem_of_getElem? (i := 0) rfl)
  have x10 : PySem.W.excIn K (He.ga K "Busy") bmVE "ValueError.__new__" = true := T.pln _ (List.mem_of_getElem? (i := 1) rfl)
  have x11 : PySem.W.excIn K (He.ga K "TooManyEdits") bmVE "ValueError.__new__" = true := T.pln _ (List.mem_of_getElem? (i := 2) rfl)
  have x12 : PySem.W.excIn K (He.ga K "NothingToUndo") bmVE "ValueError.__new__" = true := T.pln _ (List.mem_of_getElem? (i := 3) rfl)
  have x13 : PySem.W.excIn K (He.ga K "NothingToRedo") bmVE "ValueError.__new__" = true := T.pln _ (List.mem_of_getElem? (i := 4) rfl)
  have x14 : PySem.W.excIn K (He.ga K "BadEdits") bmVE "ValueError.__new__" = true := T.pln _ (List.mem_of_getElem? (i := 5) rfl)
  have x15 : PySem.W.excIn K (He.ga K "SaveError") bmVE "ValueError.__new__" = true := T.pln _ (List.mem_of_getElem? (i := 6) rfl)
  have kk := fun i (hi : i < 16) => (T.cls _ (List.mem_of_getElem? (i := i) (a := cnm.getD i "") (by rw [List.getD_eq_getElem?_getD, List.getElem?_eq_getElem (show i < cnm.length from hi)]; rfl)))
  obtain ⟨t0, n0⟩ := T.num ("MAX_FIELDS", 4) (List.mem_of_getElem? (i := 0) rfl)
  obtain ⟨t1, n1⟩ := T.num ("MAX_SIZE", 6) (List.mem_of_getElem? (i := 1) rfl)
  obtain ⟨t2, n2⟩ := T.num ("MAX_WORLDS", 24) (List.mem_of_getElem? (i := 2) rfl)
  obtain ⟨t3, n3⟩ := T.num ("MAX_KEYS", 3) (List.mem_of_getElem? (i := 3) rfl)
  obtain ⟨t4, n4⟩ := T.num ("MAX_DEEP", 3) (List.mem_of_getElem? (i := 4) rfl)
  obtain ⟨t5, n5⟩ := T.num ("MAX_NOTS", 2) (List.mem_of_getElem? (i := 5) rfl)
  obtain ⟨t6, n6⟩ := T.num ("MAX_PLACES", 16) (List.mem_of_getElem? (i := 6) rfl)
  obtain ⟨t7, n7⟩ := T.num ("MAX_NEST", 3) (List.mem_of_getElem? (i := 7) rfl)
  obtain ⟨t8, n8⟩ := T.num ("MAX_ROW", 400) (List.mem_of_getElem? (i := 8) rfl)
  obtain ⟨t9, n9⟩ := T.num ("MAX_DEPTH", 60) (List.mem_of_getElem? (i := 9) rfl)
  obtain ⟨t10, n10⟩ := T.num ("MAX_COST", 99) (List.mem_of_getElem? (i := 10) rfl)
  obtain ⟨t11, n11⟩ := T.num ("MAX_EDITS", 60) (List.mem_of_getElem? (i := 11) rfl)
  obtain ⟨t12, n12⟩ := T.num ("BATCH", 20) (List.mem_of_getElem? (i := 12) rfl)
  refine okG F scL (fun vs H Q E h => ?_) (fun cdv A outer s H vs Q E hgd hr h => ?_)
  · obtain ⟨a, ns, rfl, _⟩ := h
    rfl
  · obtain ⟨a, ns, rfl, hS, hlen, q⟩ := h
    have nd := scL.nd
    have r__law_deck := hr.mono (show 1 ≤ 3 by decide)
    have r__law_one := hr.mono (show 2 ≤ 3 by decide)
    have r__law_fields := hr
    have r__law_kinds := hr.mono (show 1 ≤ 3 by decide)
    have hu := hr.units
    have hr1 := hr.mono (show 1 ≤ 3 by decide)
    have hr2 := hr.mono (show 2 ≤ 3 by decide)
    refine ⟨_, (pss_cons (ps_set (i := 1) nd rfl (Or.inl rfl) (pe_call G__law_deck r__law_deck (by rfl) g__law_deck F__law_deck.kp b__law_deck .nil pass0 (pa_cons (pv 0) pa_nil)))
      (pss_cons (ps_set (i := 2) nd rfl (Or.inl rfl) (pe_lst (pa_cons (pe_new0 PySem.F.excBase_ValueError x9 g9 (kk 9 (by decide)).kp (by rfl)) (pa_cons (pe_new0 PySem.F.excBase_ValueError x10 g10 (kk 10 (by decide)).kp (by rfl)) (pa_cons (pe_new0 PySem.F.excBase_ValueError x11 g11 (kk 11 (by decide)).kp (by rfl)) (pa_cons (pe_new0 PySem.F.excBase_ValueError x12 g12 (kk 12 (by decide)).kp (by rfl)) (pa_cons (pe_new0 PySem.F.excBase_ValueError x13 g13 (kk 13 (by decide)).kp (by rfl)) (pa_cons (pe_new0 PySem.F.excBase_ValueError x14 g14 (kk 14 (by decide)).kp (by rfl)) pa_nil))))))))
      (pss_cons (ps_for PassesOwn.never rfl (pi_range1 (by rfl) m_range (pa_cons pe_int pa_nil)) (pg_name (i := 3) nd rfl (Or.inl rfl))
      (pss_cons (ps_set (i := 4) nd rfl (Or.inl rfl) (pe_call G__law_one r__law_one (by rfl) g__law_one F__law_one.kp b__law_one .nil pass0 (pa_cons (pv 1) (pa_cons (pe_lst (pa_cons pe_int (pa_cons pe_non (pa_cons pe_str (pa_cons (pe_tup (pa_cons pe_int (pa_cons pe_str pa_nil))) (pa_cons (pe_lst (pa_cons pe_int pa_nil)) (pa_cons (pe_disp (pps_cons pe_str pe_int pps_nil) (by rfl) (by rfl) (fun z => by cases z) (by decide)) (pa_cons pe_bl (pa_cons (pe_op op_pow pe_int pe_int) (pa_cons (pe_un un_neg pe_int) pa_nil)))))))))) pa_nil))))
      (pss_cons (ps_asg (pe_call G__law_fields r__law_fields (by rfl) g__law_fields F__law_fields.kp b__law_fields .nil pass0 (pa_cons (pv 4) pa_nil)) (pg_tup (by rfl) (pgs_cons (pg_name (i := 5) nd rfl (Or.inl rfl)) (pgs_cons (pg_name (i := 6) nd rfl (Or.inl rfl)) pgs_nil))))
      (pss_cons (ps_if (pt_cmpR op_ne (pe_callB ((call_repr hgd hu).or (call_reprD hgd hu)) (by rfl) m_repr (by decide +kernel) (pa_cons (pv 6) pa_nil)) (pe_callB ((call_repr hgd hu).or (call_reprD hgd hu)) (by rfl) m_repr (by decide +kernel) (pa_cons (pe_op op_rep (pe_lst (pa_cons (pv 4) pa_nil)) pe_int) pa_nil)) (nomark _))
      (pss_one (ps_ret pe_bl))
      pss_nil)
      (pss_one (ps_for PassesOwn.never rfl (pi_range1 (by rfl) m_range (pa_cons pe_int pa_nil)) (pg_name (i := 7) nd rfl (Or.inr rfl))
      (pss_cons (ps_set (i := 8) nd rfl (Or.inl rfl) (pe_ix ix_list (pe_op op_cat (pv 5) (pv 2)) (pv 7) (fun _ _ => rfl)))
      (pss_cons (ps_set (i := 9) nd rfl (Or.inl rfl) (pe_cmpR op_in_seq (pv 7) (pe_tup (pa_cons pe_int (pa_cons pe_int pa_nil))) (by rfl)))
      (pss_cons (ps_set (i := 10) nd rfl (Or.inl rfl) (pe_op op_cat (pe_lc (own := [("_law_own", 12)]) (g := gName 12) (tt := tYes) (by rfl) nd (pi_range1 (by rfl) m_range (pa_cons pe_int pa_nil)) (blkOk_by (own := [("_law_own", 12)]) (N := ["_law_script", "_law_deck_here", "_law_plain", "_law_turn", "_law_value", "_law_made", "_law_told", "_law_k", "_law_error", "_law_is_look", "_law_due", "_law_held", "_law_own"]) (sc := defScope sLaw) (by decide +kernel)) (fun _ _ _ _ _ => (pg_name (i := 12) nd rfl (Or.inl rfl))) (fun _ _ _ _ _ => pts_nil) (fun _ _ _ _ _ => (pe_cmpR op_eq (pv 12) (pv 7) (nomark _)))) (pe_lst (pa_cons (pe_not (pv 9)) pa_nil))))
      (pss_cons (ps_if (PW.pt (pw_or (pt_cmpR (op_neD hu) (pe_call G__law_kinds r__law_kinds (by rfl) g__law_kinds F__law_kinds.kp b__law_kinds .nil pass0 (pa_cons (pv 8) pa_nil)) (pv 10) (nomark _)) (pw_or1 (pt_cmpR op_ne (pe_callB (call_isX T.hn T.ht) (by rfl) m_isinstance (by decide +kernel) (pa_cons (pv 8) (pa_cons (pe_bltn (v := .ty "LookupError") (by rfl) mLE (by decide +kernel) rfl) pa_nil))) (pv 9) (nomark _)))))
      (pss_one (ps_ret pe_bl))
      pss_nil)
      (pss_one (ps_if (pt_cmpR op_eq (pe_callB (call_isX T.hn T.ht) (by rfl) m_isinstance (by decide +kernel) (pa_cons (pv 8) (pa_cons (pe_bltn (v := .ty "ValueError") (by rfl) mVE (by decide +kernel) rfl) pa_nil))) (pv 9) (nomark _))
      (pss_one (ps_ret pe_bl))
      pss_nil))))))))))))
      (pss_cons (ps_set (i := 11) nd rfl (Or.inl rfl) (pe_lst (pa_cons pe_int pa_nil)))
      (pss_cons (ps_asg (pe_call G__law_fields r__law_fields (by rfl) g__law_fields F__law_fields.kp b__law_fields .nil pass0 (pa_cons (pv 11) pa_nil)) (pg_tup (by rfl) (pgs_cons (pg_name (i := 5) nd rfl (Or.inl rfl)) (pgs_cons (pg_name (i := 6) nd rfl (Or.inl rfl)) pgs_nil))))
      (pss_cons (ps_expr (pe_bm PySem.F.plainAttrs_list PySem.F.slot_list_append PySem.F.type_list_append mt_append (pv 11) (pa_cons pe_int pa_nil)))
      (pss_cons (ps_if (PW.pt (pw_or (pt_cmpR op_ne (pe_callB ((call_repr hgd hu).or (call_reprD hgd hu)) (by rfl) m_repr (by decide +kernel) (pa_cons (pv 6) pa_nil)) (pe_callB ((call_repr hgd hu).or (call_reprD hgd hu)) (by rfl) m_repr (by decide +kernel) (pa_cons (pe_op op_rep (pe_lst (pa_cons (pe_lst (pa_cons pe_int (pa_cons pe_int pa_nil))) pa_nil)) pe_int) pa_nil)) (nomark _)) (pw_or (pt_val (pe_callB (call_isX T.hn T.ht) (by rfl) m_isinstance (by decide +kernel) (pa_cons (pe_new0 PySem.F.excBase_ValueError x15 g15 (kk 15 (by decide)).kp (by rfl)) (pa_cons (pe_bltn (v := .ty "LookupError") (by rfl) mLE (by decide +kernel) rfl) pa_nil)))) (pw_or1 (pt_not (pt_val (pe_callB (call_isX T.hn T.ht) (by rfl) m_isinstance (by decide +kernel) (pa_cons (pe_new0 PySem.F.excBase_ValueError x15 g15 (kk 15 (by decide)).kp (by rfl)) (pa_cons (pe_bltn (v := .ty "ValueError") (by rfl) mVE (by decide +kernel) rfl) pa_nil)))))))))
      (pss_one (ps_ret pe_bl))
      pss_nil)
      (pss_cons (ps_set (i := 6) nd rfl (Or.inl rfl) (pe_lst (pa_cons (pe_glob (v := .int 4) (by rfl) n0 ⟨_, rfl⟩) (pa_cons (pe_glob (v := .int 6) (by rfl) n1 ⟨_, rfl⟩) (pa_cons (pe_glob (v := .int 24) (by rfl) n2 ⟨_, rfl⟩) (pa_cons (pe_glob (v := .int 3) (by rfl) n3 ⟨_, rfl⟩) (pa_cons (pe_glob (v := .int 3) (by rfl) n4 ⟨_, rfl⟩) (pa_cons (pe_glob (v := .int 2) (by rfl) n5 ⟨_, rfl⟩) (pa_cons (pe_glob (v := .int 16) (by rfl) n6 ⟨_, rfl⟩) (pa_cons (pe_glob (v := .int 3) (by rfl) n7 ⟨_, rfl⟩) (pa_cons (pe_glob (v := .int 400) (by rfl) n8 ⟨_, rfl⟩) (pa_cons (pe_glob (v := .int 60) (by rfl) n9 ⟨_, rfl⟩) pa_nil))))))))))))
      (pss_one (ps_ret (pe_cmpR op_eq (pe_callB ((call_repr hgd hu).or (call_reprD hgd hu)) (by rfl) m_repr (by decide +kernel) (pa_cons (pe_op op_cat (pv 6) (pe_lst (pa_cons (pe_glob (v := .int 99) (by rfl) n10 ⟨_, rfl⟩) (pa_cons (pe_glob (v := .int 60) (by rfl) n11 ⟨_, rfl⟩) (pa_cons (pe_glob (v := .int 20) (by rfl) n12 ⟨_, rfl⟩) pa_nil))))) pa_nil)) (pe_callB ((call_repr hgd hu).or (call_reprD hgd hu)) (by rfl) m_repr (by decide +kernel) (pa_cons (pe_lst (pa_cons pe_int (pa_cons pe_int (pa_cons pe_int (pa_cons pe_int (pa_cons pe_int (pa_cons pe_int (pa_cons pe_int (pa_cons pe_int (pa_cons pe_int (pa_cons pe_int (pa_cons pe_int (pa_cons pe_int (pa_cons pe_int pa_nil)))))))))))))) pa_nil)) (nomark _)))))))))))), ?_⟩
    -- the deck
    refine ⟨_, rfl, a, ns, rfl, hS, hlen, fun H1 d c s1 nd1 nc1 hD1 => ?_⟩
    -- the errors without a field
    refine fun p0 y0 p1 y1 p2 y2 p3 y3 p4 y4 p5 y5 => ⟨by show 6 ≤ sizeLine; decide, fun pl ypl => ?_⟩
    have w0 := same_new (o := ExO (.ref (He.ga K "BadDepths")) p0) y0
    have w1 := same_new (o := ExO (.ref (He.ga K "Busy")) p1) y1
    have w2 := same_new (o := ExO (.ref (He.ga K "TooManyEdits")) p2) y2
    have w3 := same_new (o := ExO (.ref (He.ga K "NothingToUndo")) p3) y3
    have w4 := same_new (o := ExO (.ref (He.ga K "NothingToRedo")) p4) y4
    have w5 := same_new (o := ExO (.ref (He.ga K "BadEdits")) p5) y5
    have w6 := same_new (o := .lst [.ref p0, .ref p1, .ref p2, .ref p3, .ref p4, .ref p5]) ypl
    have hC : Ctx K _ d c pl 0 [p0, p1, p2, p3, p4, p5] := ⟨hD1.same (w0.trans (w1.trans (w2.trans (w3.trans (w4.trans (w5.trans w6)))))), upd_same, rfl, fun i e he => by
      match i, he with
      | 0, he => obtain rfl : p0 = e := Option.some.inj he; exact .inr (w6 _ _ (w5 _ _ (w4 _ _ (w3 _ _ (w2 _ _ (w1 _ _ upd_same))))))
      | 1, he => obtain rfl : p1 = e := Option.some.inj he; exact .inr (w6 _ _ (w5 _ _ (w4 _ _ (w3 _ _ (w2 _ _ upd_same)))))
      | 2, he => obtain rfl : p2 = e := Option.some.inj he; exact .inr (w6 _ _ (w5 _ _ (w4 _ _ (w3 _ _ upd_same))))
      | 3, he => obtain rfl : p3 = e := Option.some.inj he; exact .inr (w6 _ _ (w5 _ _ (w4 _ _ upd_same)))
      | 4, he => obtain rfl : p4 = e := Option.some.inj he; exact .inr (w6 _ _ (w5 _ _ upd_same))
      | 5, he => obtain rfl : p5 = e := Option.some.inj he; exact .inr (w6 _ _ upd_same)
      | i + 6, he => simp at he⟩
    clear w0 w1 w2 w3 w4 w5 w6
    generalize [p0, p1, p2, p3, p4, p5] = ps at hC
    generalize upd _ pl _ = H2 at hC ⊢
    -- six turns
    refine ⟨6, rfl, by decide, by decide, for_range (n := 6) (fun i σ H => (∃ z3 z4 z5 z6 z7 z8 z9 z10 z11 z12, σ = [some (.ref a), some (.ref d), some (.ref pl), z3, z4, z5, z6, z7, z8, z9, z10, z11, z12]) ∧ Ctx K H d c pl i ps) ⟨⟨_, _, _, _, _, _, _, _, _, _, rfl⟩, hC⟩ (fun i σ H hi hP => ?_) (fun σ H hP => ?_)⟩
    · obtain ⟨⟨z3, z4, z5, z6, z7, z8, z9, z10, z11, z12, rfl⟩, hC⟩ := hP
      -- the nine values
      refine ⟨_, rfl, by show 2 ≤ sizeLine; decide, fun tu ntu => ⟨by show 1 ≤ sizeLine; decide, fun li nli => fun di ndi => ?_⟩⟩
      refine ⟨upd_same, dC, rfl, by show 1 ≤ 15; decide, _, _, rfl, rfl, ⟨by decide, by decide, by decide⟩, _, rfl, by show 9 ≤ sizeLine; decide, fun it nit => ?_⟩
      have u0 := same_new (o := .tup [.int 1, .str "b"]) ntu
      have u1 := same_new (o := .lst [.int 2]) nli
      have u2 := same_new (o := .dK []) ndi
      have e2 : upd (upd (upd (upd H tu (.tup [.int 1, .str "b"])) li (.lst [.int 2])) di (.dK [])) di (.dK (mergeK [] dC)) = upd (upd (upd H tu (.tup [.int 1, .str "b"])) li (.lst [.int 2])) di (.dK dC) := upd_upd
      have u2 := same_new (o := .dK dC) ndi
      rw [e2] at nit ⊢
      have u3 := same_new (o := .lst [.int 0, .non, .str "a", .ref tu, .ref li, .ref di, .bl true, .int (10 ^ 50), .int (-4)]) nit
      have uu := u0.trans (u1.trans (u2.trans u3))
      have hC4 := hC.up uu
      have kd : ∀ b, H b = none → b ≠ d ∧ b ≠ c := by
        intro b hb
        obtain ⟨ns', q1, q2, _⟩ := hC.dk
        exact ⟨(ne_of_none q1 hb).symm, (ne_of_none q2 hb).symm⟩
      have ft : H tu = none := ntu
      have fl : H li = none := u0.free nli
      have fi : H di = none := u0.free (u1.free ndi)
      have fit : H it = none := u0.free (u1.free (u2.free nit))
      refine ⟨d, c, it, i, _, rfl, hC4.dk, by omega, .inl (.inl (.inl upd_same)), (kd _ fit).1, (kd _ fit).2, by simp, by show 9 ≤ 1000; omega, fun H5 j v off hD5 hv => ?_⟩
      have hC5 := hC4.off off hD5
      have vok : VOk K H5 v := by
        have o1 := off _ _ (u3 _ _ (u2 _ _ (u1 _ _ upd_same))) (kd _ ft).1 (kd _ ft).2
        have o2 := off _ _ (u3 _ _ (u2 _ _ upd_same)) (kd _ fl).1 (kd _ fl).2
        have o3 := off _ _ (u3 _ _ upd_same) (kd _ fi).1 (kd _ fi).2
        have fine : ∀ d : PyData, Fine d 200 → d.depth ≤ 49 → Dp K H5 v d → VOk K H5 v := fun d f h x => .inl ⟨d, x, f, h⟩
        match j, hv with
        | 0, hv => obtain rfl : V.int 0 = v := Option.some.inj hv; exact fine (.int 0) ⟨by decide +kernel, by decide +kernel, by decide +kernel, by decide +kernel⟩ (by decide +kernel) (.int 0)
        | 1, hv => obtain rfl : V.non = v := Option.some.inj hv; exact fine .none ⟨by decide +kernel, by decide +kernel, by decide +kernel, by decide +kernel⟩ (by decide +kernel) .non
        | 2, hv => obtain rfl : V.str "a" = v := Option.some.inj hv; exact fine (.str "a") ⟨by decide +kernel, by decide +kernel, by decide +kernel, by decide +kernel⟩ (by decide +kernel) (.str "a")
        | 3, hv => obtain rfl : V.ref tu = v := Option.some.inj hv; exact fine (.tuple [.int 1, .str "b"]) ⟨by decide +kernel, by decide +kernel, by decide +kernel, by decide +kernel⟩ (by decide +kernel) (.tup (.inl (.inl o1)) (.cons (.int 1) (.cons (.str "b") .nil)))
        | 4, hv => obtain rfl : V.ref li = v := Option.some.inj hv; exact fine (.list [.int 2]) ⟨by decide +kernel, by decide +kernel, by decide +kernel, by decide +kernel⟩ (by decide +kernel) (.lst (.inl (.inl o2)) (.cons (.int 2) .nil))
        | 5, hv => obtain rfl : V.ref di = v := Option.some.inj hv; exact .inr ⟨di, rfl, o3⟩
        | 6, hv => obtain rfl : V.bl true = v := Option.some.inj hv; exact fine (.bool true) ⟨by decide +kernel, by decide +kernel, by decide +kernel, by decide +kernel⟩ (by decide +kernel) (.bl true)
        | 7, hv => obtain rfl : V.int (10 ^ 50) = v := Option.some.inj hv; exact fine (.int (10 ^ 50)) ⟨by decide +kernel, by decide +kernel, by decide +kernel, by decide +kernel⟩ (by decide +kernel) (.int _)
        | 8, hv => obtain rfl : V.int (-4) = v := Option.some.inj hv; exact fine (.int (-4)) ⟨by decide +kernel, by decide +kernel, by decide +kernel, by decide +kernel⟩ (by decide +kernel) (.int _)
        | j + 9, hv => simp at hv
      clear off hv hC4 uu u0 u1 u2 u3 e2 hC kd
      -- made, told = _law_fields(value)
      refine ⟨_, rfl, v, rfl, fun H6 p m tt es s6 np nm nt hp hm hes hX ht => ?_⟩
      refine ⟨p, _, rfl, .inl (.inl hp), rfl, _, _, rfl, _, _, rfl, rfl, ?_⟩
      have hC6 := hC5.up s6
      obtain ⟨txt, hr9⟩ := repr9 vok
      -- repr(told) != repr([value] * 9)
      refine ⟨_, rfl, hr9 H6 tt _ s6 ht ?_⟩
      refine ⟨_, rfl, by show 1 ≤ sizeLine; decide, fun l1 nl1 => ⟨l1, 9, _, rfl, rfl, upd_same, by decide, by decide, by show 1 * 9 ≤ sizeLine; decide, fun l9 nl9 => ?_⟩⟩
      have s7 := (same_new (o := .lst [v]) nl1).trans (same_new (o := .lst (List.replicate (Int.toNat 9) [v]).flatten) nl9)
      refine hr9 _ l9 _ (s6.trans s7) upd_same ?_
      refine ⟨rfl, false, by rw [decide_eq_true rfl]; rfl, ?_⟩
      refine iteF ?_
      have hC7 := hC6.up s7
      have hm7 := s7 _ _ hm
      have hX7 := fun i e he => IsX.up (hX i e he) s7
      generalize upd _ l9 _ = H7 at hC7 hm7 hX7 ⊢
      -- fifteen errors
      refine ⟨15, rfl, by decide, by decide, for_range (n := 15) (fun k σ H => (∃ z3 z4 z6 z7 z8 z9 z10 z11 z12, σ = [some (.ref a), some (.ref d), some (.ref pl), z3, z4, some (.ref m), z6, z7, z8, z9, z10, z11, z12]) ∧ Ctx K H d c pl (i + 1) ps ∧ H m = some (.lst (es.map V.ref)) ∧ ∀ (j : Nat) (e : Addr), es[j]? = some e → IsX H e (Cl K j))
        ⟨⟨_, _, _, _, _, _, _, _, _, rfl⟩, hC7, hm7, hX7⟩ (fun k σ H hk hP => ?_) (fun σ H hP => ?_)⟩
      · obtain ⟨⟨z3, z4, z6, z7, z8, z9, z10, z11, z12, rfl⟩, hC, hm, hX⟩ := hP
        -- error = (made + plain)[k]
        have hk2 : k < (es ++ ps).length := by rw [List.length_append, hes, hC.ln]; exact hk
        obtain ⟨e, he⟩ : ∃ e, (es ++ ps)[k]? = some e := ⟨_, List.getElem?_eq_getElem hk2⟩
        have hXe : IsX H e (Cl K k) := by
          by_cases h9 : k < 9
          · rw [List.getElem?_append_left (by rw [hes]; exact h9)] at he
            exact hX k e he
          · rw [List.getElem?_append_right (by rw [hes]; omega), hes] at he
            have := hC.is (k - 9) e he
            rw [show 9 + (k - 9) = k by omega] at this
            exact this
        have hat : atI (es.map V.ref ++ ps.map V.ref) (0 + (k : Int)) = some (.ref e) := by
          rw [Int.zero_add, ← List.map_append]
          refine atI_nat ?_
          rw [List.getElem?_map, he]
          rfl
        refine ⟨_, rfl, _, rfl, m, pl, _, _, rfl, rfl, hm, hC.pl, by rw [List.length_map, List.length_map, hes, hC.ln]; show 9 + 6 ≤ sizeLine; decide, fun ap nap => ?_⟩
        refine ⟨_, rfl, ap, _, _, _, rfl, rfl, .inl (.inl upd_same), hat, ?_⟩
        have r0 := same_new (o := .lst (es.map V.ref ++ ps.map V.ref)) nap
        -- is_look
        refine ⟨_, rfl, by show 2 ≤ sizeLine; decide, fun tp ntp => ⟨tp, _, rfl, .inr (.inl (.inl upd_same)), rfl, rfl, ?_⟩⟩
        have hl : (if (false : Bool) = true then !inV (V.int (0 + (k : Int))) [.int 7, .int 8] else inV (V.int (0 + (k : Int))) [.int 7, .int 8]) = (k == 7 || k == 8) := by
          rw [if_neg Bool.false_ne_true]
          exact look_eq k hk
        rw [hl]
        have r1 := r0.trans (same_new (o := .tup [.int 7, .int 8]) ntp)
        generalize hH1 : upd _ tp (.tup [.int 7, .int 8]) = H1 at r1 ⊢
        clear hH1
        -- due
        refine ⟨15, rfl, by decide, by decide, fun D nD => ?_⟩
        refine lc_range (lo := 0) (n := 15) (fun i H2 => Same H H2 ∧ H2 D = some (.lst (((List.range i).map fun j => j == k).map V.bl))) ⟨r1.trans (same_new nD), upd_same⟩ (fun i H2 hi hP => ?_) (fun H2 hP => ?_)
        · obtain ⟨q1, q2⟩ := hP
          refine ⟨rfl, tYes_then ?_⟩
          refine ⟨_, rfl, _, rfl, rfl, _, q2, by rw [List.length_map, List.length_map, List.length_range]; exact small1000 (by omega), same_put q1 (r1.free nD), ?_⟩
          rw [upd_same, int_eq, List.range_succ, List.map_append, List.map_append]
          rfl
        · obtain ⟨q1, q2⟩ := hP
          refine ⟨_, rfl, _, rfl, by show 1 ≤ sizeLine; decide, fun nl nnl => ?_⟩
          refine ⟨D, nl, _, _, rfl, rfl, by rw [upd_ne (ne_of_none q2 nnl)]; exact q2, upd_same, by rw [List.length_map, List.length_map, List.length_range]; show 15 + 1 ≤ sizeLine; decide, fun du ndu => ?_⟩
          have r2 := q1.trans ((same_new (o := .lst [V.bl (!(k == 7 || k == 8))]) nnl).trans (same_new (o := .lst (((List.range 15).map fun j => j == k).map V.bl ++ [V.bl (!(k == 7 || k == 8))])) ndu))
          have hdu : (((List.range 15).map fun j => j == k).map V.bl ++ [V.bl (!(k == 7 || k == 8))]) = ((List.range 16).map (isOf k)).map V.bl := by
            rw [due_eq k hk, List.map_append]
            rfl
          rw [hdu] at r2 ⊢
          have eD : ∀ Hx : Hp, upd Hx du (.lst (((List.range 16).map (isOf k)).map V.bl)) du = some (.lst (((List.range 16).map (isOf k)).map V.bl)) := fun Hx => upd_same
          generalize hH2 : upd _ du (.lst (((List.range 16).map (isOf k)).map V.bl)) = H3 at r2 ⊢
          have hd3 : H3 du = some (.lst (((List.range 16).map (isOf k)).map V.bl)) := by rw [← hH2]; exact eD _
          clear hH2 eD
          have hC3 := hC.up r2
          have hX3 := hXe.up r2
          -- kinds
          refine ⟨_, rfl, e, k, rfl, hk, hX3, fun H4 kp r3 nkp hkp => ?_⟩
          have hkp2 : H4 kp = some (.lst (((List.range 16).map (isOf k)).map V.bl)) := by rw [hkp, List.map_map]; rfl
          have hX4 := hX3.up r3
          have dp : ∀ x, H4 x = some (.lst (((List.range 16).map (isOf k)).map V.bl)) → Dp K H4 (.ref x) (.list (((List.range 16).map (isOf k)).map PyData.bool)) := fun x hx => .lst (.inl (.inl hx)) (dps_bls _)
          have sh : SeqAt.shaped (.list (((List.range 16).map (isOf k)).map PyData.bool)) = true := shaped_k k hk
          refine ⟨_, rfl, _, _, dp _ hkp2, dp _ (r3 _ _ hd3), sh, sh, false, by rw [SeqAt.eqv_refl _ (SeqAt.canLay_of_shaped sh)]; rfl, ?_⟩
          refine iteF ?_
          -- isinstance(error, LookupError) != is_look
          refine ⟨_, rfl, e, _, _, _, _, rfl, .ty _, hX4, T.cls _ (cnm_mem k (by omega)), T.kit k 16 (by omega) (by decide), _, rfl, rfl, false, ?_, ?_⟩
          · show V.bl (!decide (V.bl (k == 7 || k == 8) = V.bl (k == 7 || k == 8))) = V.bl false
            rw [decide_eq_true rfl]
            rfl
          refine iteF ?_
          -- isinstance(error, ValueError) == is_look
          refine ⟨_, rfl, e, _, _, _, _, rfl, .ty _, hX4, T.cls _ (cnm_mem k (by omega)), T.kit k 17 (by omega) (by decide), _, rfl, rfl, false, ?_, ?_⟩
          · show V.bl (decide (V.bl (!(k == 7 || k == 8)) = V.bl (k == 7 || k == 8))) = V.bl false
            cases (k == 7 || k == 8) <;> rfl
          refine iteF ?_
          have r4 := r2.trans r3
          exact ⟨⟨_, _, _, _, _, _, _, _, _, rfl⟩, hC.up r4, r4 _ _ hm, fun j e he => (hX j e he).up r4⟩
      · obtain ⟨⟨z3, z4, z6, z7, z8, z9, z10, z11, z12, rfl⟩, hC, _⟩ := hP
        exact ⟨⟨_, _, _, _, _, _, _, _, _, _, rfl⟩, hC⟩
    · obtain ⟨⟨z3, z4, z5, z6, z7, z8, z9, z10, z11, z12, rfl⟩, hC⟩ := hP
      clear hC
      -- held = [1]; made, told = _law_fields(held); held.append(2)
      refine ⟨by show 1 ≤ sizeLine; decide, fun he nhe => ?_⟩
      refine ⟨_, rfl, .ref he, rfl, fun H6 p m tt es s6 np nm nt hp hm hes hX ht => ?_⟩
      refine ⟨p, _, rfl, .inl (.inl hp), rfl, _, _, rfl, _, _, rfl, rfl, ?_⟩
      have hhe := s6 _ _ upd_same
      refine ⟨_, rfl, .inl ⟨rfl, _, .inl (.inl hhe)⟩, ?_⟩
      refine ⟨he, _, _, rfl, rfl, hhe, by show 1 < sizeLine; decide, ?_⟩
      have htne : tt ≠ he := ne_of ht hhe (by intro z; injection z with z; cases z)
      have f1 : (upd H6 he (.lst ([.int 1] ++ [.int 2]))) he = some (.lst [.int 1, .int 2]) := upd_same
      have f2 : (upd H6 he (.lst ([.int 1] ++ [.int 2]))) tt = some (.lst (List.replicate 9 (.ref he))) := by rw [upd_ne htne]; exact ht
      generalize upd H6 he (.lst ([.int 1] ++ [.int 2])) = H7 at f1 f2 ⊢
      have inner : ∀ (Hx : Hp) (x : Addr), Hx x = some (.lst [.int 1, .int 2]) → Dp K Hx (.ref x) (.list [.int 1, .int 2]) := fun Hx x hx => .lst (.inl (.inl hx)) (dps_ints [1, 2])
      have fin : Fine (.list [.int 1, .int 2]) 20 := ⟨by decide +kernel, by decide +kernel, by decide +kernel, by decide +kernel⟩
      have fin9 := fine_rep fin (by decide +kernel) 9
      -- repr(told) != repr([[1, 2]] * 9)
      refine ⟨_, rfl, .inl (repr_fine (.lst (.inl (.inl f2)) (dps_rep (inner _ _ f1) 9)) fin9 (by decide) ?_)⟩
      refine ⟨by show 2 ≤ sizeLine; decide, fun l2 nl2 => ⟨by show 1 ≤ sizeLine; decide, fun l1 nl1 => ⟨l1, 9, _, rfl, rfl, upd_same, by decide, by decide, by show 1 * 9 ≤ sizeLine; decide, fun l9 nl9 => ?_⟩⟩⟩
      have e2 : (upd (upd (upd H7 l2 (.lst [.int 1, .int 2])) l1 (.lst [.ref l2])) l9 (.lst (List.replicate (Int.toNat 9) [V.ref l2]).flatten)) l2 = some (.lst [.int 1, .int 2]) := same_new nl9 _ _ (same_new nl1 _ _ upd_same)
      refine .inl (repr_fine (.lst (xs := List.replicate 9 (V.ref l2)) (.inl (.inl upd_same)) (dps_rep (inner _ _ e2) 9)) fin9 (by decide) ?_)
      refine ⟨rfl, false, by rw [decide_eq_true rfl]; rfl, ?_⟩
      refine iteF ?_
      -- isinstance(SaveError(), LookupError)
      refine fun q1 nq1 => ⟨q1, Cl K 15, _, _, _, rfl, .ty _, .inr upd_same, T.cls _ (cnm_mem 15 (by decide)), T.kit 15 16 (by decide) (by decide), false, rfl, ?_⟩
      refine iteF ?_
      -- not isinstance(SaveError(), ValueError)
      refine fun q2 nq2 => ⟨q2, Cl K 15, _, _, _, rfl, .ty _, .inr upd_same, T.cls _ (cnm_mem 15 (by decide)), T.kit 15 17 (by decide) (by decide), true, rfl, ?_⟩
      refine iteF ?_
      -- the bounds
      refine ⟨by show 10 ≤ sizeLine; decide, fun b1 nb1 => ?_⟩
      refine ⟨_, rfl, by show 3 ≤ sizeLine; decide, fun b2 nb2 => ⟨b1, b2, _, _, rfl, rfl, same_new nb2 _ _ upd_same, upd_same, by show 10 + 3 ≤ sizeLine; decide, fun b3 nb3 => ?_⟩⟩
      have fz : Fine (.list ([4, 6, 24, 3, 3, 2, 16, 3, 400, 60, 99, 60, 20].map PyData.int)) 100 := ⟨by decide +kernel, by decide +kernel, by decide +kernel, by decide +kernel⟩
      refine .inl (repr_fine (.lst (xs := [4, 6, 24, 3, 3, 2, 16, 3, 400, 60, 99, 60, 20].map V.int) (.inl (.inl upd_same)) (dps_ints _)) fz (by decide) ?_)
      refine ⟨by show 13 ≤ sizeLine; decide, fun b4 nb4 => .inl (repr_fine (.lst (xs := [4, 6, 24, 3, 3, 2, 16, 3, 400, 60, 99, 60, 20].map V.int) (.inl (.inl upd_same)) (dps_ints _)) fz (by decide) ?_)⟩
      refine ⟨rfl, ?_⟩
      rw [decide_eq_true rfl]
      exact q _
end
end K00
set_option maxHeartbeats 0
namespace K00
open PySem PySem.Spec PyProof.Rows L2 Sb
def fnL : List He.DefD := [
⟨("_law_deck", none), "_law_deck", "_law_deck", defArgs sDeck, defBody sDeck, defScope sDeck, [], []⟩,
  ⟨("_law_draw", none), "_law_draw", "_law_draw", defArgs sDraw, defBody sDraw, defScope sDraw, [], []⟩,
  ⟨("_law_one", none), "_law_one", "_law_one", defArgs sOne, defBody sOne, defScope sOne, [], []⟩,
  ⟨("_law_fields", none), "_law_fields", "_law_fields", defArgs sFields, defBody sFields, defScope sFields, [], []⟩,
  ⟨("_law_kinds", none), "_law_kinds", "_law_kinds", defArgs sKinds, defBody sKinds, defScope sKinds, [], []⟩,
  ⟨("law", none), "law", "law", defArgs sLaw, defBody sLaw, defScope sLaw, [], []⟩,
  ⟨("BadText", some "__init__"), "__init__", "BadText.__init__", defArgs sI0, defBody sI0, defScope sI0, [], []⟩,
  ⟨("BadGame", some "__init__"), "__init__", "BadGame.__init__", defArgs sI1, defBody sI1, defScope sI1, [], []⟩,
  ⟨("BadPlan", some "__init__"), "__init__", "BadPlan.__init__", defArgs sI2, defBody sI2, defScope sI2, [], []⟩,
  ⟨("BadWorld", some "__init__"), "__init__", "BadWorld.__init__", defArgs sI3, defBody sI3, defScope sI3, [], []⟩,
  ⟨("Unsafe", some "__init__"), "__init__", "Unsafe.__init__", defArgs sI4, defBody sI4, defScope sI4, [], []⟩,
  ⟨("BadEdit", some "__init__"), "__init__", "BadEdit.__init__", defArgs sI5, defBody sI5, defScope sI5, [], []⟩,
  ⟨("Rejected", some "__init__"), "__init__", "Rejected.__init__", defArgs sI6, defBody sI6, defScope sI6, [], []⟩,
  ⟨("NoField", some "__init__"), "__init__", "NoField.__init__", defArgs sI7, defBody sI7, defScope sI7, [], []⟩,
  ⟨("NoVersion", some "__init__"), "__init__", "NoVersion.__init__", defArgs sI8, defBody sI8, defScope sI8, [], []⟩]
abbrev RR : PySem.W.OpenRow := PySem.W.OpenLaw.row PySem.Challenge.rw_savedback_k00_errors_made_by_hand
abbrev hk : PySem.W.Hook := hookS 6 okK fnL
def ob (s : PySem.W.SharedT) : Sb.Seen := seenG 6 okK fnL (HandSHeadRun.getT s)
theorem ob_eq (s : PySem.W.SharedT) : ob s = hk.obs s.abs := seenG_eq (HandSHeadRun.getT_eq s)
def loose : List PySem.Str := (["SaveError", "BadText", "BadGame", "BadPlan", "BadWorld", "BadDepths", "Unsafe", "Busy", "TooManyEdits", "NothingToUndo", "NothingToRedo", "BadEdits", "BadEdit", "Rejected", "NoField", "NoVersion"] : List PySem.Str) ++
  (["MAX_FIELDS", "MAX_SIZE", "MAX_WORLDS", "MAX_KEYS", "MAX_DEEP", "MAX_NOTS", "MAX_PLACES", "MAX_NEST", "MAX_ROW", "MAX_DEPTH", "MAX_COST", "MAX_EDITS", "BATCH", "_law_deck", "_law_draw", "_law_one", "_law_fields", "_law_kinds"] : List PySem.Str)
theorem run (w : World) : HandSHeadRun.RunEq RR (PySem.W.view RR.prog [36]) hk ob 6000 loose w := by
  intro os
  kernel_rfl
theorem facts {P : Program} {w : World} {K : PySem.W.Frag} {h : Heap} {mg : Str → Option Value} {f : Addr} (X : K.In h) (G : h.Ns mainGlobals mg) (hfa : mg ("law" : Str) = some (.ref f)) (c : seenK okK fnL K = (true, fnL.map He.DefD.val)) :
    ∃ fd : FuncData, (∀ (s : Shared) (v : Value), BindsTo s fd ⟨[v], []⟩ [("_law_script", v)]) ∧ ∀ base : Heap, K.In base → base.Ns mainGlobals mg → FnG P w K mg base CX0 4 f fd ["_law_script"] (spLaw K) := by
  have T := txt_of X G (seen_ok c)
  obtain ⟨fd, F⟩ := seen_fun c 5 (at_ := ("law", none)) (x := "law") (q := "law") (st := sLaw) rfl
  have e := hfa.symm.trans (T.glo "law" (List.mem_of_getElem? (i := 21) rfl))
  cases e
  have b := F.binds (ps := ["_law_script"]) fun _ _ _ _ _ _ us hl => match us, hl with | [_], _ => rfl
  refine ⟨fd, fun s v => ?_, fun base _ _ => ok_law F T ⟨seen_fun c 6 rfl, seen_fun c 7 rfl, seen_fun c 8 rfl, seen_fun c 9 rfl, seen_fun c 10 rfl, seen_fun c 11 rfl, seen_fun c 12 rfl, seen_fun c 13 rfl, seen_fun c 14 rfl⟩ (seen_fun c 0 rfl) (seen_fun c 1 rfl) (seen_fun c 2 rfl) (seen_fun c 3 rfl) (seen_fun c 4 rfl)⟩
  obtain ⟨oc, od, kV, doc, pm, an, cdv, ct, osl, rfl, _, _⟩ := F.ex
  exact .of_eq rfl
end K00
open PySem PySem.W PySem.Calls PyProof.Rows
set_option maxRecDepth 100000 in
set_option maxHeartbeats 0 in
theorem PySem.Challenge.cw_savedback_k00_errors_made_by_hand_holds : PySem.Challenge.rw_savedback_k00_errors_made_by_hand.Holds := by
  w_on; o_law
  refine HandSHeadRun.head_any (r := OpenLaw.row PySem.Challenge.rw_savedback_k00_errors_made_by_hand) (q := view (OpenLaw.row PySem.Challenge.rw_savedback_k00_errors_made_by_hand).prog [36]) (H := K00.hk) (ob := K00.ob) (M := 6000) (loose := K00.loose)
    (d := HandSHeadRun.topDef (OpenLaw.row PySem.Challenge.rw_savedback_k00_errors_made_by_hand).prog 36) (kwd := []) K00.ob_eq
    (by kernel_rfl) (fun s => by kernel_rfl) K00.run (by kernel_rfl) (by kernel_rfl) (by kernel_rfl) (by rfl) (by first | assumption | decide +kernel) (by decide +kernel) ⟨rfl, rfl, rfl, rfl, rfl, by decide +kernel⟩ ?hw ?hc
  case hw => w_witness2
  case hc =>
    refine Sb.walkG (l := PySem.Challenge.rw_savedback_k00_errors_made_by_hand) (n := 63) (k := 4) (x := "_law_script") (CX := L2.CX0) rfl (by decide) (by kernel_rfl) ⟨rfl, by decide, by decide⟩ ?F (fun _ _ _ _ z => z)
    intro w mg fa h Y G hmg0
    obtain ⟨K, KX, c⟩ := Y
    have hmg : mg ("law" : PySem.Str) = some (.ref fa) := by
      have e : (HandSHeadRun.topDef (OpenLaw.row PySem.Challenge.rw_savedback_k00_errors_made_by_hand).prog 36).name = ("law" : PySem.Str) := by kernel_rfl
      rw [← e]
      exact hmg0
    obtain ⟨fd, hb, hF⟩ := K00.facts (P := (PySem.Challenge.rw_savedback_k00_errors_made_by_hand).prog) (w := w) KX G hmg c
    exact ⟨K, fd, K00.spLaw K, KX, hb, fun H a ns hl _ hS => ⟨a, ns, rfl, hS, hl, fun _ => rfl⟩, hF⟩
