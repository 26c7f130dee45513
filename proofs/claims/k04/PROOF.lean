import PyProof.Rows.All
import Wide.All
import OpenK.AllK
import Wide.FinOn
import HandS.ForMost
import HandS.Wide
import HandS.IsInst
import HandS.Defaults
import HandS.Codes
import HandS.Style
import PyProof.ReprRoads
import PyProof.ReprLen
import HandS.Zip
import HandS.NoneIn
import HandS.TupAny
import HandS.DictTup
import HandS.SortRule
import HandS.SortOrd
import HandS.ListItems
import KE.KDictWalk
import HandS.ForExc
import HandS.ExcOwn
import HandS.WordsExc
import HandS.ExcCtx
import HandS.TryOnly
import HandS.ExcIs
import HandS.ExcValue
import HandS.ExcInit
import KE.KExcIs
import HandS.ExcField
import PySem.Challenge.RW_unlikepairs_k04_sequence_errors
set_option Elab.async false
set_option linter.all false
set_option maxRecDepth 100000
set_option maxHeartbeats 4000000
namespace UP
open PySem PySem.Spec PyProof.Rows L2

/-! ### a def that keeps a promise, by its name -/
section
variable (P : Program) (w : World) (K : PySem.W.Frag) (mg : Str → Option Value) (base : Heap)
def Has (k : Nat) (x : Str) (ps : List Str) (sp : Sp) : Prop :=
  ∃ f fd, mg x = some (.ref f) ∧ PySem.W.keepIn K (.ref f) = true ∧ Binds K fd ps [] ∧ FnOk P w K mg base CX0 k f fd ps sp
def Df (x : Str) (st : Stmt) : Prop := ∃ f fd, mg x = some (.ref f) ∧ Fun K x x st f fd
end
theorem Df.of {K : PySem.W.Frag} {mg : Str → Option Value} {x : Str} {st : Stmt} {f : Addr} {fd : FuncData} (g : mg x = some (.ref f)) (F : Fun K x x st f fd) : Df K mg x st := ⟨f, fd, g, F⟩
section
variable {P : Program} {w : World} {K : PySem.W.Frag} {mg : Str → Option Value} {base : Heap}
theorem has_of {x : Str} {st : Stmt} {ps N : List Str} {k : Nat} {sp : Sp} (D : Df K mg x st) (S : FnScope N ps (defScope st))
    (hb : ∀ (kV doc pm : Value) (an : Option Addr) (cdv ct : Value) (us : List Value), us.length = ps.length → bindArgs (PySem.W.fnOf x x (defArgs st) (defBody st) (defScope st) .none kV doc pm an cdv ct) ⟨us, []⟩ = pure (ps.zip us))
    (len : ∀ vs H Q E, sp vs H Q E → vs.length = ps.length)
    (body : ∀ (f : Addr) (cdv : Value) (A : Around) (outer : List Env) (s : Shared) (H : Hp) (vs : List V) (Q : VK) (E : XK), Room k (A.deeper (envOfC x (defScope st) s.heap.objs.size f cdv)) → sp vs H Q E →
      ∃ t, PSs (cxOf CX0 P w K mg base N x (defScope st) f cdv A outer s H E).nox (defBody st) t ∧ t { nx := fun _ H' => Q .non H', rt := Q } (start N vs) H) :
    Has P w K mg base (k + 1) x ps sp := by
  obtain ⟨f, fd, g, F⟩ := D
  exact ⟨f, fd, g, F.kp, F.binds hb, F.ok S len fun cdv A outer s H vs Q E hr h => body f cdv A outer s H vs Q E hr h⟩
theorem Has.weak {x : Str} {ps : List Str} {k : Nat} {sp sp' : Sp} (h : Has P w K mg base k x ps sp) (e : sp = sp') : Has P w K mg base k x ps sp' := e ▸ h
end
section
variable {X : Cx}
theorem pe_callH {k : Nat} {x : Str} {ps : List Str} {sp : Sp} {p pos : Pos} {e : Expr} {es : List Expr} {t : TA} (G : Has X.prog X.w X.K X.mg X.base k x ps sp) (hr : Room k X.A) (hg : Gl X x) (ha : PA X (e :: es) t)
    (hdb : (x == ("__debug__" : Str)) = false := by decide) (he : starEach (e :: es) X.env = (false, eval e X.env) :: starEach es X.env := by rfl) (hpl : (backTo pos (starEach es X.env)).any (·.1) = false := by rfl) :
    PE X (.Call (.Name x p) (e :: es) [] pos) (tCall sp [] E0 t) := by
  obtain ⟨f, fd, g, kp, b, F⟩ := G
  exact pe_call F hr hg g kp b .nil pass0 ha hdb he hpl
theorem pe_glI {x : Str} {i : Int} {pos : Pos} (h : ∃ t, X.mg x = some (.int i t)) (hg : Gl X x) (hd : (x == ("__debug__" : Str)) = false := by decide) : PE X (.Name x pos) (tC (.int i)) := by
  obtain ⟨t, h⟩ := h
  exact pe_glob hg h ⟨t, rfl⟩ hd
end

/-! ### heaps -/
theorem same_upd {H : Hp} {p : Addr} {o : HO} (h : H p = none) : Same H (upd H p o) := fun b x e => by
  rw [upd_ne (ne_of_none e h)]
  exact e
/-- all but the object at sp is as it was -/
def But (sp : Addr) (H H' : Hp) : Prop := ∀ b o, b ≠ sp → H b = some o → H' b = some o
theorem Same.but {sp : Addr} {H H' : Hp} (h : Same H H') : But sp H H' := fun b o _ e => h b o e
theorem But.trans {sp : Addr} {H H1 H2 : Hp} (a : But sp H H1) (b : But sp H1 H2) : But sp H H2 := fun c o n e => b c o n (a c o n e)
theorem But.refl {sp : Addr} {H : Hp} : But sp H H := fun _ _ _ e => e
theorem but_upd {sp : Addr} {H : Hp} {o : HO} : But sp H (upd H sp o) := fun b x n e => by
  rw [upd_ne n]
  exact e
theorem small {n : Nat} (h : n ≤ 1000000) : n < sizeLine := Nat.lt_of_le_of_lt h (by decide)
theorem smallE {n : Nat} (h : n ≤ 1000000) : n ≤ sizeLine := Nat.le_of_lt (small h)

/-! ### runs and states -/
abbrev Run := Str × Int
def RunV (H : Hp) (v : V) (r : Run) : Prop := ∃ t, v = .ref t ∧ H t = some (.tup [.str r.1, .int r.2])
def Runs (H : Hp) (a : Addr) (rs : List Run) : Prop := ∃ xs, H a = some (.lst xs) ∧ Paired (RunV H) xs rs
def StV (H : Hp) (v : V) : Option Run → Prop
  | none => v = .non
  | some r => RunV H v r
theorem RunV.same {H H' : Hp} {v : V} {r : Run} (s : Same H H') (h : RunV H v r) : RunV H' v r := by
  obtain ⟨t, e, h⟩ := h
  exact ⟨t, e, s _ _ h⟩
theorem Paired.len {α β : Type} {F : α → β → Prop} : ∀ {l₁ : List α} {l₂ : List β}, Paired F l₁ l₂ → l₁.length = l₂.length
  | _, _, .nil => rfl
  | _, _, .cons _ t => congrArg Nat.succ (Paired.len t)
theorem Paired.at {α β : Type} {F : α → β → Prop} : ∀ {l₁ : List α} {l₂ : List β} {i : Nat} {x : α}, Paired F l₁ l₂ → l₁[i]? = some x → ∃ y, l₂[i]? = some y ∧ F x y
  | _, _, _, _, .nil, h => by simp at h
  | _, _, 0, _, .cons h _, e => by
    simp only [List.getElem?_cons_zero, Option.some.injEq] at e
    subst e
    exact ⟨_, by simp, h⟩
  | _, _, i + 1, _, .cons _ t, e => by
    simp only [List.getElem?_cons_succ] at e ⊢
    exact Paired.at t e
theorem Paired.at' {α β : Type} {F : α → β → Prop} : ∀ {l₁ : List α} {l₂ : List β} {i : Nat} {y : β}, Paired F l₁ l₂ → l₂[i]? = some y → ∃ x, l₁[i]? = some x ∧ F x y
  | _, _, _, _, .nil, h => by simp at h
  | _, _, 0, _, .cons h _, e => by
    simp only [List.getElem?_cons_zero, Option.some.injEq] at e
    subst e
    exact ⟨_, by simp, h⟩
  | _, _, i + 1, _, .cons _ t, e => by
    simp only [List.getElem?_cons_succ] at e ⊢
    exact Paired.at' t e
theorem Paired.imp {α β : Type} {F G : α → β → Prop} (f : ∀ a b, F a b → G a b) : ∀ {l₁ : List α} {l₂ : List β}, Paired F l₁ l₂ → Paired G l₁ l₂
  | _, _, .nil => .nil
  | _, _, .cons h t => .cons (f _ _ h) (Paired.imp f t)
theorem Paired.app {α β : Type} {F : α → β → Prop} : ∀ {l₁ m₁ : List α} {l₂ m₂ : List β}, Paired F l₁ l₂ → Paired F m₁ m₂ → Paired F (l₁ ++ m₁) (l₂ ++ m₂)
  | _, _, _, _, .nil, h => h
  | _, _, _, _, .cons h t, k => .cons h (Paired.app t k)
theorem Paired.dropp {α β : Type} {F : α → β → Prop} : ∀ {l₁ : List α} {l₂ : List β} (n : Nat), Paired F l₁ l₂ → Paired F (l₁.drop n) (l₂.drop n)
  | _, _, 0, h => h
  | _, _, n + 1, .nil => .nil
  | _, _, n + 1, .cons _ t => by
    simp only [List.drop_succ_cons]
    exact Paired.dropp n t
theorem Paired.takep {α β : Type} {F : α → β → Prop} : ∀ {l₁ : List α} {l₂ : List β} (n : Nat), Paired F l₁ l₂ → Paired F (l₁.take n) (l₂.take n)
  | _, _, 0, h => by simp only [List.take_zero]; exact .nil
  | _, _, n + 1, .nil => .nil
  | _, _, n + 1, .cons h t => by
    simp only [List.take_succ_cons]
    exact .cons h (Paired.takep n t)
theorem Runs.same {H H' : Hp} {a : Addr} {rs : List Run} (s : Same H H') (h : Runs H a rs) : Runs H' a rs := by
  obtain ⟨xs, e, p⟩ := h
  exact ⟨xs, s _ _ e, Paired.imp (fun _ _ => RunV.same s) p⟩
theorem StV.same {H H' : Hp} {v : V} {st : Option Run} (s : Same H H') (h : StV H v st) : StV H' v st := by
  cases st with
  | none => exact h
  | some r => exact RunV.same s h
/-- the spring: a list of three ints -/
def Spr (H : Hp) (sp : Addr) : Prop := ∃ d s c : Int, H sp = some (.lst [.int d, .int s, .int c]) ∧ 0 ≤ d ∧ d.natAbs < 2 ^ 20000 ∧ 0 ≤ s ∧ s < 2305843009213693951
theorem RunV.but {H H' : Hp} {sp : Addr} {v : V} {r : Run} (z : Spr H sp) (s : But sp H H') (h : RunV H v r) : RunV H' v r := by
  obtain ⟨t, e, h⟩ := h
  obtain ⟨_, _, _, hs, _⟩ := z
  exact ⟨t, e, s _ _ (ne_of h hs (by intro q; cases q)) h⟩
theorem Runs.ne {H : Hp} {sp a : Addr} {rs : List Run} (z : Spr H sp) (h : Runs H a rs) : a ≠ sp := by
  obtain ⟨xs, e, p⟩ := h
  obtain ⟨d, s, c, hs, _⟩ := z
  refine ne_of e hs fun q => ?_
  have q := HO.lst.inj q
  subst q
  cases p with
  | cons h _ =>
    obtain ⟨t, e, _⟩ := h
    cases e
theorem Runs.but {H H' : Hp} {sp a : Addr} {rs : List Run} (z : Spr H sp) (s : But sp H H') (h : Runs H a rs) : Runs H' a rs := by
  have n := Runs.ne z h
  obtain ⟨xs, e, p⟩ := h
  exact ⟨xs, s _ _ n e, Paired.imp (fun _ _ => RunV.but z s) p⟩
theorem StV.but {H H' : Hp} {sp : Addr} {v : V} {st : Option Run} (z : Spr H sp) (s : But sp H H') (h : StV H v st) : StV H' v st := by
  cases st with
  | none => exact h
  | some r => exact RunV.but z s h
theorem Spr.same {H H' : Hp} {sp : Addr} (z : Spr H sp) (s : Same H H') : Spr H' sp := by
  obtain ⟨d, e, c, hs, r⟩ := z
  exact ⟨d, e, c, s _ _ hs, r⟩
def KindOk (s : Str) : Prop := 1 ≤ s.length ∧ s.length ≤ 8 ∧ ∀ c ∈ s.cps.toList, 97 ≤ c ∧ c ≤ 122
def RunOk (r : Run) : Prop := KindOk r.1 ∧ 1 ≤ r.2 ∧ r.2 ≤ 1000000000000000000000000000000
def Alt (rs : List Run) : Prop := ∀ (i : Nat) (x y : Run), rs[i]? = some x → rs[i + 1]? = some y → x.1 ≠ y.1
def SeqOk (rs : List Run) : Prop := rs.length ≤ 400 ∧ (∀ r ∈ rs, RunOk r) ∧ Alt rs
end UP

set_option Elab.async false
set_option linter.all false
set_option maxRecDepth 100000
set_option maxHeartbeats 4000000
namespace UP
open PySem PySem.Spec PyProof.Rows L2
/-! ### repr of plain data, where no other repr is under way -/
def rRepr (K : PySem.W.Frag) : List V → Hp → VK → Prop := fun xs H Q => ∃ (a : Addr) (d : PyData), xs = [.ref a] ∧ Dp K H (.ref a) d ∧ d.showable = true ∧ SeqAt.shaped d = true ∧ d.shown.length ≤ sizeLine ∧ Q (.str d.shown) H
theorem call_reprD {X : Cx} (hg : X.A.guards = some []) (hu : X.A.units + 70 < cLine) : CallR X (.builtin "repr") (rRepr X.K) := by
  intro pins s σ H xs us Q I r h
  obtain ⟨a, d, rfl, dp, sh, sp, sz, q⟩ := h
  obtain ⟨u, rfl, ru⟩ := vals1 r
  cases (show u = Value.ref a from ru)
  obtain ⟨as, rd⟩ := Dp.reads I d (.ref a) (.ref a) dp rfl
  have dd := SeqAt.depth_of_shaped sp
  refine repr_of_reads' rd sh (PyData.noDict_hsm (PyData.hasDict_of_canLay d (SeqAt.canLay_of_shaped sp))) hg (by omega) (fun _ _ e => e) (fun h' u tk hk => ?_) sz
  exact ⟨.str d.shown, H, I.kept (t' := tk) hk, ⟨u, rfl⟩, q⟩
/-! ### the law's own call, around it nothing -/
structure FnC (P : Program) (w : World) (K : PySem.W.Frag) (mg : Str → Option Value) (base : Heap) (f : Addr) (fd : FuncData) (ps : List Str) (sp : Sp) : Prop where
  go : ∀ (out : List Env) (s : Shared) (H : Hp) (args : Args) (us : List Value) (vs : List V) (Q : VK) (E : XK), Env0 P w K mg base callerA out s H → BindsTo s fd args (ps.zip us) → Vals vs us → sp vs H Q E →
    codeAny (model P w) callerA (.call (.ref f) args) (CR CX0 out P w H s Q E) s
theorem callerA_room : Room 8 callerA := ⟨rfl, by decide, by decide⟩
section
variable {P : Program} {w : World} {K : PySem.W.Frag} {mg : Str → Option Value} {base : Heap}
theorem fnC_of {x : Str} {st : Stmt} {f : Addr} {fd : FuncData} {ps N : List Str} {sp : Sp} (F : Fun K x x st f fd) (S : FnScope N ps (defScope st)) (len : ∀ vs H Q E, sp vs H Q E → vs.length = ps.length)
    (body : ∀ (cdv : Value) (out : List Env) (s : Shared) (H : Hp) (vs : List V) (Q : VK) (E : XK), Room 7 (callerA.deeper (envOfC x (defScope st) s.heap.objs.size f cdv)) → sp vs H Q E →
      ∃ t, PSs (cxOf CX0 P w K mg base N x (defScope st) f cdv callerA out s H E).nox (defBody st) t ∧ t { nx := fun _ H' => Q .non H', rt := Q } (start N vs) H) : FnC P w K mg base f fd ps sp := by
  obtain ⟨oc, od, kV, doc, pm, an, cdv, ct, osl, rfl, lk, hcd⟩ := F.ex
  refine ⟨fun out s H args us vs Q E e0 hb rv hsp => ?_⟩
  have inS : K.In s.heap := e0.mod.kin.keeps fun b o z => (e0.bs b o z).1
  have noL : s.heap.NoLimit := e0.mod.nolimit.keeps fun b o z => (e0.bs b o z).1
  have kinds : ∀ y ∈ ps.zip us, (defScope st).names.lookup y.1 = some .local ∨ ((defScope st).names.lookup y.1 = some .cell ∧ ((cellsFrom (s.heap.objs.size + 1) (defScope st).names []).lookup y.1).isSome = true) := by
    intro y hy
    rcases S.par y.1 (List.of_mem_zip (a := y.1) (b := y.2) hy).1 with z | z
    · exact Or.inl z
    · exact Or.inr ⟨z, PySem.W.cellsFrom_some _ _ _ (Or.inl z)⟩
  refine codeAny_call_function callerA_room.depth (inS _ _ lk) rfl S.co S.gen rfl (PySem.W.codeRec_of inS hcd) (hb _ _ _ _ ?_)
  refine wpAny_newFunctionEnv_cells S.kind kinds fun env he s1 inC => ?_
  subst he
  refine ⟨noL.keeps inC.toInCall.keep, codeAny_func ?_⟩
  obtain ⟨t, ht0, hq⟩ := body cdv out s H vs Q E (callerA_room.deeper _) hsp
  have ht := PSs.nox ht0
  have I0 : Inv (cxOf CX0 P w K mg base N x (defScope st) f cdv callerA out s H E) [] (start N vs) H s1 := inv_start S rfl e0 (len _ _ _ _ hsp) rv inC
  refine wpAny_mono (ht.run [] s1 (start N vs) H _ I0 hq) (fun fl s2 h2 => ?_) fun _ _ z => z
  cases fl with
  | next =>
    obtain ⟨σ2, H2, J, q2⟩ := h2
    exact ⟨V.non, H2, J.os, J.bare, J.base, J.hok, rfl, q2⟩
  | ret u =>
    obtain ⟨v, σ2, H2, J, rv2, q2⟩ := h2
    exact ⟨v, H2, J.os, J.bare, J.base, J.hok, rv2, q2⟩
  | brk =>
    obtain ⟨_, _, _, z⟩ := h2
    exact z.elim
  | cont =>
    obtain ⟨_, _, _, z⟩ := h2
    exact z.elim
end
/-- the heap that holds the script alone, locked -/
def oneH (a : Addr) (o : Obj) (xs : List V) : Hp := fun b => if b = a then some (.frz o (.lst xs)) else none
theorem run_law {P : Program} {w : World} {K : PySem.W.Frag} {mg mb : Str → Option Value} {fa a : Addr} {fd : FuncData} {x : Str} {sp : Sp} {s : Shared} {vs : List Value} {ns : List Int}
    (kx : K.In s.heap) (gns : s.heap.Ns mainGlobals mg) (bns : s.heap.Ns builtinsNs mb) (bb : ∀ y : Str, y ≠ "__name__" → mb y = bootBuiltins y) (nl : s.heap.NoLimit) (gens : s.gens = #[])
    (ob : s.heap.get? a = some { cls := .type "list", data := .seq vs.toArray }) (hin : IntsAre vs ns) (len : ns.length ≤ sizeLine) (F : ∀ base : Heap, K.In base → base.Ns mainGlobals mg → FnC P w K mg base fa fd [x] sp)
    (bind : ∀ (s : Shared) (u : Value), BindsTo s fd ⟨[u], []⟩ [(x, u)]) (hsp : ∀ H : Hp, SqL K H a (ns.map V.int) → sp [.ref a] H (fun v _ => v = .bl true) fun _ _ _ => False) :
    codeAny (model P w) callerA (.call (.ref fa) ⟨[.ref a], []⟩) (fun r s' => r = .ok (.ret (.bool true)) ∧ OldK s.heap s'.heap ∧ s'.os = s.os ∧ AllBare s'.gens) s := by
  have rel := vals_ints hin
  have step : ∀ H : Hp, (H = (fun _ => none) ∨ (H = oneH a { cls := .type "list", data := .seq vs.toArray } (ns.map V.int) ∧ K.lookup a = none)) → SqL K H a (ns.map V.int) → HOk P w H s.heap →
      codeAny (model P w) callerA (.call (.ref fa) ⟨[.ref a], []⟩) (fun r s' => r = .ok (.ret (.bool true)) ∧ OldK s.heap s'.heap ∧ s'.os = s.os ∧ AllBare s'.gens) s := by
    intro H hH hS hok
    have only : ∀ b u, H b = some u → b = a ∧ u = .frz { cls := .type "list", data := .seq vs.toArray } (.lst (ns.map V.int)) ∧ K.lookup a = none := by
      intro b u e
      rcases hH with z | ⟨z, z2⟩
      · rw [z] at e
        cases e
      · rw [z] at e
        by_cases hb : b = a
        · have e := (if_pos hb).symm.trans e
          cases e
          exact ⟨hb, rfl, z2⟩
        · have e := (if_neg hb).symm.trans e
          cases e
    have free : ∀ {b : Addr} {o : Obj}, s.heap.get? b = some o → (b = a → False) → (hidT s.heap H).get? b = some o := by
      intro b o e n
      refine hidT_get e ?_
      cases q : H b with
      | none => rfl
      | some u => exact (n (only b u q).1).elim
    have nss : ∀ {b : Addr} {m : Str → Option Value}, s.heap.Ns b m → (hidT s.heap H).Ns b m := by
      intro b m ⟨o, es, ep, e, d, r⟩
      refine ⟨o, es, ep, free e fun z => ?_, d, r⟩
      subst z
      rw [ob] at e
      cases e
      cases d
    have kb : K.In (hidT s.heap H) := by
      intro b o e
      refine hidT_get (kx b o e) ?_
      cases q : H b with
      | none => rfl
      | some u =>
        obtain ⟨z1, _, z2⟩ := only b u q
        rw [z1, z2] at e
        cases e
    have md : Mod K mg (hidT s.heap H) := ⟨kb, nss gns, ⟨mb, nss bns, bb⟩, by obtain ⟨mc, h1, h2⟩ := nl; exact ⟨mc, nss h1, h2⟩⟩
    have env : Env0 P w K mg (hidT s.heap H) callerA [] s H := ⟨rfl, md, fun b o e => of_hidT e, Nat.le_of_eq (hidT_size _ _), trivial, (fun b hb => by cases hb), hok, .of_eq gens⟩
    refine codeAny_mono ((F _ kb (nss gns)).go [] s H ⟨[.ref a], []⟩ [.ref a] [.ref a] _ _ env (bind s (.ref a)) (.cons rfl .nil) (hsp H hS)) fun r s' h => ?_
    cases r with
    | error e => exact h.elim
    | ok fl =>
      cases fl with
      | next => exact h.elim
      | brk => exact h.elim
      | cont => exact h.elim
      | ret u =>
        obtain ⟨v, H', o1, o2, un, hok', rv, q⟩ := h
        have q : v = .bl true := q
        subst q
        cases (show u = Value.bool true from rv)
        refine ⟨rfl, OldK.of_keep fun b o e => ?_, o1, o2⟩
        cases q : H b with
        | none => exact un.keep b o e q (fun z => by cases z) (fun z => by cases z)
        | some u =>
          obtain ⟨_, z, _⟩ := only b u q
          subst z
          obtain ⟨e1, _⟩ := hok b _ q
          obtain ⟨e2, _⟩ := hok' b _ (un.frzs b _ _ q)
          rw [e] at e1
          cases e1
          exact e2
  cases hk : K.lookup a with
  | some o =>
    have e := kx a o hk
    rw [ob] at e
    cases e
    refine step (fun _ => none) (.inl rfl) (.inr ⟨_, vs.toArray, _, hk, rfl, rfl, rfl, ?_, by simpa using rel⟩) fun b u z => by cases z
    rw [List.size_toArray, hin.length]
    exact len
  | none =>
    have at_a : oneH a { cls := .type "list", data := .seq vs.toArray } (ns.map V.int) a = some (.frz { cls := .type "list", data := .seq vs.toArray } (.lst (ns.map V.int))) := if_pos rfl
    refine step _ (.inr ⟨rfl, hk⟩) (.inl (.inr ⟨_, at_a⟩)) fun b u z => ?_
    by_cases hb : b = a
    · subst hb
      rw [at_a] at z
      cases z
      exact ⟨ob, by rw [List.length_map]; exact len, vs, _, rel, ob⟩
    · have z := (if_neg hb).symm.trans z
      cases z
theorem walkC {l : PySem.W.OpenLaw} {n : Nat} {q : Program} {loose : List Str} {XP : (Str → Option Value) → Heap → Prop} {YP : World → Heap → Prop} {d : DefRec} {K : Params → PySem.W.Frag} {sp : World → Sp} {x : Str}
    (hn : l.most = some n) (n2 : n ≤ sizeLine) (df : d.params.defaults = []) (hY : ∀ (w : World) (h : Heap), YP w h → (K w.params).In h)
    (F : ∀ (w : World) (mg : Str → Option Value) (fa : Addr) (h : Heap), (K w.params).In h → h.Ns mainGlobals mg → mg d.name = some (.ref fa) →
      ∃ fd : FuncData, (∀ (s : Shared) (u : Value), BindsTo s fd ⟨[u], []⟩ [(x, u)]) ∧ ∀ base : Heap, (K w.params).In base → base.Ns mainGlobals mg → FnC l.prog w (K w.params) mg base fa fd [x] (sp w))
    (hsp : ∀ (w : World) (H : Hp) (a : Addr) (ns : List Int), ns.length ≤ n → SqL (K w.params) H a (ns.map V.int) → sp w [.ref a] H (fun v _ => v = .bl true) fun _ _ _ => False) :
    PySem.W.WalkO q loose XP YP l.row.toRowW d [] (fun f vs => PySem.call f vs) := by
  refine Att.attach_call hn df fun w s₀ s mg mb fa o pm cd doc a vs ns G Y ho hd hcd hmg hobj hints hlen hg => ?_
  have kx := hY w _ Y
  obtain ⟨fd, hb, hF⟩ := F w mg fa _ kx G.T.g hmg
  exact run_law kx G.T.g G.T.b G.T.builtins G.T.nolimit hg hobj hints (Nat.le_trans hlen n2) hF hb fun H hS => hsp w H a ns hlen hS
end UP

set_option Elab.async false
set_option linter.all false
set_option maxRecDepth 100000
set_option maxHeartbeats 4000000
namespace UP
open PySem PySem.Spec PyProof.Rows L2
/-! ### lists or tuples -/
def Sq2 (H : Hp) (a : Addr) (xs : List V) : Prop := H a = some (.lst xs) ∨ H a = some (.tup xs)
theorem Sq2.same {H H' : Hp} {a : Addr} {xs : List V} (s : Same H H') (h : Sq2 H a xs) : Sq2 H' a xs := h.elim (fun z => .inl (s _ _ z)) (fun z => .inr (s _ _ z))
/-- a walk over the items xs, from the heap H on -/
structure Wk (J : It) (H : Hp) (xs : List V) : Prop where
  go : ∀ i H', Same H H' → i < xs.length → J.go i H'
  stop : ∀ H', Same H H' → J.stop xs.length H'
  yld : ∀ i x H' H'', Same H H' → J.yld i H' x H'' → H'' = H' ∧ xs[i]? = some x
theorem wk_list {K : PySem.W.Frag} {H : Hp} {a : Addr} {xs : List V} (h : H a = some (.lst xs)) : Wk (Itl K a) H xs :=
  ⟨fun i H' s hi => ⟨xs, xs[i], .of (s _ _ h), List.getElem?_eq_getElem hi⟩, fun H' s => ⟨xs, .of (s _ _ h), Nat.le_refl _⟩, fun i x H' H'' s y => ⟨y.1, y.2 xs (.of (s _ _ h))⟩⟩
theorem wk_tup {K : PySem.W.Frag} {H : Hp} {a : Addr} {xs : List V} (h : H a = some (.tup xs)) : Wk (Itt K a) H xs :=
  ⟨fun i H' s hi => ⟨xs, xs[i], .of (s _ _ h), List.getElem?_eq_getElem hi⟩, fun H' s => ⟨xs, .of (s _ _ h), Nat.le_refl _⟩, fun i x H' H'' s y => ⟨y.1, y.2 xs (.of (s _ _ h))⟩⟩
def iSeqV (i : Nat) : TI := fun σ H R => ∃ a xs, σ[i]? = some (some (.ref a)) ∧ Sq2 H a xs ∧ ∀ J, Wk J H xs → R J H
section
variable {X : Cx}
theorem pi_seqV (i : Nat) {x : Str} {pos : Pos} {tg : Expr} (hN : X.N[i]? = some x := by rfl) (hv : Vis X.env.scope x := by first | exact Or.inl rfl | exact Or.inr (Or.inl rfl) | exact Or.inr (Or.inr rfl)) (hd : (x == ("__debug__" : Str)) = false := by decide)
    (hc : (x == ("__classdict__" : Str)) = false := by decide) : PI X tg (.Name x pos) (iSeqV i) := by
  refine ⟨fun pins s σ H R I hw => ?_⟩
  obtain ⟨a, xs, e, h, k⟩ := hw
  rcases h with h | h
  · exact (pi_list (pe_var hN hv hd hc)).run pins s σ H R I ⟨_, e, a, rfl, ⟨xs, .of h⟩, k _ (wk_list h)⟩
  · exact (pi_tup (pe_var hN hv hd hc)).run pins s σ H R I ⟨_, e, a, rfl, ⟨xs, .of h⟩, k _ (wk_tup h)⟩
def gAny (n : Nat) (t : TGs) : TG := fun v σ H Q => ∃ a xs, v = .ref a ∧ Sq2 H a xs ∧ xs.length = n ∧ t xs σ H Q
theorem pg_any {es : List Expr} {k n : Nat} {t : TGs} {pos : Pos} (hc : X.calm = true) (h : PGs X es t) (hn : (assignEach es X.env).length = n := by rfl) (hst : (assignEach es X.env).findIdx? (fun z => z.1) = none := by rfl) : PG X (.Tuple es k pos) (gAny n t) := by
  refine ⟨fun pins s σ H v u Q I r hw => ?_⟩
  obtain ⟨a, xs, e, hx, hl, hw⟩ := hw
  rcases hx with z | z
  · exact (pg_unl hc h hn hst).run pins s σ H v u Q I r ⟨a, xs, e, .of z, hl, hw⟩
  · exact (pg_tup hc h hn hst).run pins s σ H v u Q I r ⟨a, xs, e, .of z, hl, hw⟩
/-- zip(x, x[1:]) -/
structure WkZ (J : It) (H : Hp) (xs : List V) : Prop where
  go : ∀ i H', Same H H' → i + 1 < xs.length → J.go i H'
  stop : ∀ H', Same H H' → J.stop (xs.length - 1) H'
  yld : ∀ i x H' H'', Same H H' → J.yld i H' x H'' → ∃ T x1 x2, x = .ref T ∧ H' T = none ∧ H'' = upd H' T (.tup [x1, x2]) ∧ xs[i]? = some x1 ∧ (i + 1 < xs.length → xs[i + 1]? = some x2)
def iZip1 (i : Nat) : TI := fun σ H R => ∃ a xs, σ[i]? = some (some (.ref a)) ∧ Sq2 H a xs ∧ ∀ J H', Same H H' → WkZ J H' xs → R J H'
theorem cutt_one (xs : List V) : cutV xs (some 1) none = xs.drop 1 := by
  have e : HT.sIx xs.length 0 (some 1) = min 1 xs.length := HT.sIx_nat xs.length 0 1
  unfold cutV
  rw [e, HT.sIx_none]
  cases xs with
  | nil => rfl
  | cons x r =>
    have e1 : min 1 (x :: r).length = 1 := by simp only [List.length_cons]; omega
    rw [e1]
    simp
theorem pi_zip1 {i : Nat} {tg it : Expr} {tl th : TO} (h : PI X tg it (RZ.iZipA X.K (tCons (tVar i) (tCons (tSl (fun x lo hi H Q => rSlL X.K x lo hi H Q ∨ rSlA X.K x lo hi H Q) (tVar i) tl th) tNil))))
    (h1 : ∀ (σ : L2.St) (H : Hp) (Q : Option Int → Hp → Prop), Q (some 1) H → tl σ H Q) (h2 : ∀ (σ : L2.St) (H : Hp) (Q : Option Int → Hp → Prop), Q none H → th σ H Q) : PI X tg it (iZip1 i) := by
  refine ⟨fun pins s σ H R I hw => h.run pins s σ H R I ?_⟩
  obtain ⟨a, xs, e, hx, k⟩ := hw
  refine ⟨_, e, _, e, h1 σ H _ (h2 σ H _ ?_)⟩
  have gn : ∀ j : Nat, (xs.drop 1)[j]? = xs[j + 1]? := fun j => by rw [List.getElem?_drop, Nat.add_comm 1 j]
  rcases hx with hx | hx
  · refine .inl ⟨a, xs, rfl, .of hx, fun c nc => ?_⟩
    have sc : Same H (upd H c (.lst (cutV xs (some 1) none))) := fun b o z => by rw [upd_ne (ne_of_none z nc)]; exact z
    have hc : (upd H c (.lst (cutV xs (some 1) none))) c = some (.lst (xs.drop 1)) := by rw [upd_same, cutt_one]
    refine ⟨a, c, xs, xs.drop 1, rfl, .inl ⟨.of (sc _ _ hx), .of hc, k _ _ sc ⟨fun j H' sj hj => ?_, fun H' sj => ?_, fun j x H' H'' sj y => ?_⟩⟩⟩
    · exact ⟨xs, xs.drop 1, xs[j], xs[j + 1], .of (sj _ _ (sc _ _ hx)), .of (sj _ _ hc), List.getElem?_eq_getElem (by omega), by rw [gn]; exact List.getElem?_eq_getElem hj⟩
    · exact ⟨xs, xs.drop 1, .of (sj _ _ (sc _ _ hx)), .of (sj _ _ hc), .inr (by rw [List.length_drop]; exact Nat.le_refl _)⟩
    · obtain ⟨T, x1, x2, e1, e2, e3, f1, f2⟩ := y
      exact ⟨T, x1, x2, e1, e2, e3, f1 xs (.of (sj _ _ (sc _ _ hx))), fun _ => by rw [← gn]; exact f2 _ (.of (sj _ _ hc))⟩
  · refine .inr ⟨a, xs, rfl, .of hx, fun z => ?_, fun z c nc => ?_⟩
    · have lz : xs.length = 0 := by
        have z1 := z.1
        rw [show HT.sIx xs.length 0 (some 1) = min 1 xs.length from HT.sIx_nat xs.length 0 1] at z1
        omega
      refine ⟨a, a, xs, xs, rfl, .inr ⟨.of hx, .of hx, k _ _ (Same.refl _) ⟨fun j H' sj hj => by omega, fun H' sj => ⟨xs, xs, .of (sj _ _ hx), .of (sj _ _ hx), .inl (by omega)⟩, fun j x H' H'' sj y => ?_⟩⟩⟩
      obtain ⟨T, x1, x2, e1, e2, e3, f1, f2⟩ := y
      exact ⟨T, x1, x2, e1, e2, e3, f1 xs (.of (sj _ _ hx)), fun hj => by omega⟩
    · have sc : Same H (upd H c (.tup (cutV xs (some 1) none))) := fun b o z => by rw [upd_ne (ne_of_none z nc)]; exact z
      have hc : (upd H c (.tup (cutV xs (some 1) none))) c = some (.tup (xs.drop 1)) := by rw [upd_same, cutt_one]
      refine ⟨a, c, xs, xs.drop 1, rfl, .inr ⟨.of (sc _ _ hx), .of hc, k _ _ sc ⟨fun j H' sj hj => ?_, fun H' sj => ?_, fun j x H' H'' sj y => ?_⟩⟩⟩
      · exact ⟨xs, xs.drop 1, xs[j], xs[j + 1], .of (sj _ _ (sc _ _ hx)), .of (sj _ _ hc), List.getElem?_eq_getElem (by omega), by rw [gn]; exact List.getElem?_eq_getElem hj⟩
      · exact ⟨xs, xs.drop 1, .of (sj _ _ (sc _ _ hx)), .of (sj _ _ hc), .inr (by rw [List.length_drop]; exact Nat.le_refl _)⟩
      · obtain ⟨T, x1, x2, e1, e2, e3, f1, f2⟩ := y
        exact ⟨T, x1, x2, e1, e2, e3, f1 xs (.of (sj _ _ (sc _ _ hx))), fun _ => by rw [← gn]; exact f2 _ (.of (sj _ _ hc))⟩
end
/-! ### runs and states, dressed -/
def RunG (H : Hp) (v : V) (r : Run) : Prop := ∃ t, v = .ref t ∧ Sq2 H t [.str r.1, .int r.2]
def RunsG (H : Hp) (v : V) (rs : List Run) : Prop := ∃ a xs, v = .ref a ∧ Sq2 H a xs ∧ Paired (RunG H) xs rs
def StG (H : Hp) (v : V) : Option Run → Prop
  | none => v = .non
  | some r => RunG H v r
theorem RunG.same {H H' : Hp} {v : V} {r : Run} (s : Same H H') (h : RunG H v r) : RunG H' v r := by
  obtain ⟨t, e, h⟩ := h
  exact ⟨t, e, h.same s⟩
theorem RunsG.same {H H' : Hp} {v : V} {rs : List Run} (s : Same H H') (h : RunsG H v rs) : RunsG H' v rs := by
  obtain ⟨a, xs, e, hx, p⟩ := h
  exact ⟨a, xs, e, hx.same s, Paired.imp (fun _ _ => RunG.same s) p⟩
theorem StG.same {H H' : Hp} {v : V} {st : Option Run} (s : Same H H') (h : StG H v st) : StG H' v st := by
  cases st with
  | none => exact h
  | some r => exact RunG.same s h
theorem RunV.dress {H : Hp} {v : V} {r : Run} (h : RunV H v r) : RunG H v r := by
  obtain ⟨t, e, h⟩ := h
  exact ⟨t, e, .inr h⟩
theorem Runs.dress {H : Hp} {a : Addr} {rs : List Run} (h : Runs H a rs) : RunsG H (.ref a) rs := by
  obtain ⟨xs, hx, p⟩ := h
  exact ⟨a, xs, rfl, .inl hx, Paired.imp (fun _ _ => RunV.dress) p⟩
theorem StV.dress {H : Hp} {v : V} {st : Option Run} (h : StV H v st) : StG H v st := by
  cases st with
  | none => exact h
  | some r => exact RunV.dress h
theorem Sq2.but {H H' : Hp} {sp a : Addr} {xs : List V} (z : Spr H sp) (s : But sp H H') (h : Sq2 H a xs) (n : ∀ d e f, xs ≠ [.int d, .int e, .int f]) : Sq2 H' a xs := by
  obtain ⟨d, e, f, hs, _⟩ := z
  rcases h with h | h
  · exact .inl (s _ _ (ne_of h hs fun q => n d e f (HO.lst.inj q)) h)
  · exact .inr (s _ _ (ne_of h hs fun q => by cases q) h)
theorem RunG.but {H H' : Hp} {sp : Addr} {v : V} {r : Run} (z : Spr H sp) (s : But sp H H') (h : RunG H v r) : RunG H' v r := by
  obtain ⟨t, e, h⟩ := h
  exact ⟨t, e, h.but z s fun _ _ _ q => by cases q⟩
theorem RunsG.but {H H' : Hp} {sp : Addr} {v : V} {rs : List Run} (z : Spr H sp) (s : But sp H H') (h : RunsG H v rs) : RunsG H' v rs := by
  obtain ⟨a, xs, e, hx, p⟩ := h
  refine ⟨a, xs, e, hx.but z s fun d _ _ q => ?_, Paired.imp (fun _ _ => RunG.but z s) p⟩
  subst q
  cases p with
  | cons h _ =>
    obtain ⟨_, e, _⟩ := h
    cases e
theorem StG.but {H H' : Hp} {sp : Addr} {v : V} {st : Option Run} (z : Spr H sp) (s : But sp H H') (h : StG H v st) : StG H' v st := by
  cases st with
  | none => exact h
  | some r => exact RunG.but z s h
end UP

set_option Elab.async false
set_option linter.all false
set_option maxRecDepth 100000
set_option maxHeartbeats 4000000
/-! ### sorted(d.items()), d a dict of texts with ints -/
namespace UPS
open PySem PyProof.Rows SrtO Srt
def lexS (p q : Str × Int) : Bool := if p.1 = q.1 then decide (p.2 < q.2) else decide (p.1.cps.toList < q.1.cps.toList)
theorem lexS_no {p q : Str × Int} : lexS p q = false ↔ (p.1 = q.1 → ¬ p.2 < q.2) ∧ (p.1 ≠ q.1 → ¬ p.1.cps.toList < q.1.cps.toList) := by
  unfold lexS
  by_cases e : p.1 = q.1
  · rw [if_pos e, decide_eq_false_iff_not]
    exact ⟨fun h => ⟨fun _ => h, fun n => absurd e n⟩, fun h => h.1 e⟩
  · rw [if_neg e, decide_eq_false_iff_not]
    exact ⟨fun h => ⟨fun z => absurd z e, fun _ => h⟩, fun h => h.2 e⟩
theorem str_of {x y : Str} (h : x.cps.toList = y.cps.toList) : x = y := by
  cases x with
  | mk a =>
    cases y with
    | mk b =>
      congr 1
      exact Array.ext' h
theorem swoS : Swo lexS := by
  refine ⟨fun x y h => ?_, fun x y z h1 h2 => ?_⟩
  · refine lexS_no.mpr ⟨fun e => ?_, fun n => ?_⟩
    · unfold lexS at h
      rw [if_pos e.symm] at h
      have := of_decide_eq_true h
      omega
    · unfold lexS at h
      rw [if_neg fun z => n z.symm] at h
      exact List.lt_asymm (of_decide_eq_true h)
  · have a := lexS_no.mp h1
    have b := lexS_no.mp h2
    refine lexS_no.mpr ⟨fun e => ?_, fun n => ?_⟩
    · by_cases c : y.1 = x.1
      · have := a.1 c
        have := b.1 (e.trans c.symm)
        omega
      · exfalso
        have p := a.2 c
        have q := b.2 fun w => c (w.symm.trans e)
        rw [e] at q
        exact c (str_of (List.le_antisymm q p))
    · by_cases c : y.1 = x.1
      · rw [← c]
        exact b.2 fun w => n (w.trans c)
      · by_cases d : z.1 = y.1
        · rw [d]
          exact a.2 c
        · exact List.le_trans (a.2 c) (b.2 d)
/-- a tuple of a text and an int -/
def IsSI (h : Heap) (v : Value) (x : Str) (y : Int) : Prop := ∃ a o t u n, v = .ref a ∧ h.get? a = some o ∧ o.cls = .type "tuple" ∧ o.data = .seq #[.str x t, .int y u] n
theorem IsSI.keeps {h h' : Heap} {v : Value} {x : Str} {y : Int} (p : IsSI h v x y) (k : ∀ b o, h.get? b = some o → o.cls = .type "tuple" → h'.get? b = some o) : IsSI h' v x y := by
  obtain ⟨a, o, t, u, n, e, ho, hc, hd⟩ := p
  exact ⟨a, o, t, u, n, e, k _ _ ho hc, hc, hd⟩
theorem firsts_si {h : Heap} : ∀ {vs : List Value}, (∀ v ∈ vs, ∃ x y, IsSI h v x y) → ∃ fs : List Value, PySem.W.KatTups h vs fs ∧ fs.length = vs.length ∧ ∀ f ∈ fs, ∃ x t, f = Value.str x t
  | [], _ => ⟨[], PySem.W.KatTups.nil, rfl, fun f hf => by simp at hf⟩
  | v :: vs, x => by
    obtain ⟨fs, k, hl, hi⟩ := firsts_si (vs := vs) fun u hu => x u (List.mem_cons_of_mem _ hu)
    obtain ⟨y, z, a, o, t, u, n, rfl, ho, hc, hd⟩ := x v (List.mem_cons_self ..)
    refine ⟨.str y t :: fs, PySem.W.KatTups.cons ho hc hd rfl k, congrArg Nat.succ hl, fun f hf => ?_⟩
    rcases List.mem_cons.mp hf with e | e
    · exact ⟨y, t, e⟩
    · exact hi f e
section
variable {prog : Program} {w : World} {A : Around} {s : Shared} {E : Value → Shared → Prop}
theorem si_cmp {vs : List Value} {k : Value → Str × Int} (hp : ∀ v ∈ vs, IsSI s.heap v (k v).1 (k v).2) : Cmp prog w A s (tuples' true) (fun p => p.1 ∈ vs) (lt2 fun v u => lexS (k v) (k u)) := by
  intro p q hm hm'
  have h1 := hp _ hm
  have h2 := hp _ hm'
  show wpAny (model prog w) A (keyLt' (tuples' true) p.1 q.1) (fun r s' => s' = s ∧ r = lexS (k p.1) (k q.1)) (fun _ _ => False) s
  unfold lexS
  generalize (k p.1).1 = x at h1 ⊢
  generalize (k p.1).2 = y at h1 ⊢
  generalize (k q.1).1 = x' at h2 ⊢
  generalize (k q.1).2 = y' at h2 ⊢
  obtain ⟨a, o, t, u, n, e, ho, hc, hd⟩ := h1
  obtain ⟨a', o', t', u', n', e', ho', hc', hd'⟩ := h2
  rw [e, e']
  refine PySem.W.kat_lt ho hd ho' hd' ?_
  show PySem.W.KatLex prog w A true (decide (2 < 2)) _ [(.str x t, .str x' t'), (.int y u, .int y' u')] 0 s
  refine PySem.W.kat_cons (SeqAt.EqAt.str_str x t x' t' prog w _ _ ?_)
  refine PySem.W.kat_go (fun e1 => ?_) (fun e1 => ?_)
  · have ex : x = x' := by simpa using e1
    refine PySem.W.kat_yes (PySem.W.kat_cons (SeqAt.EqAt.int_int y u y' u' prog w _ _ ?_))
    refine PySem.W.kat_go (fun e2 => ?_) (fun e2 => ?_)
    · have ey : y = y' := by simpa using e2
      have e3 : (if x = x' then decide (y < y') else decide (x.cps.toList < x'.cps.toList)) = false := by
        rw [if_pos ex, ey]
        exact decide_eq_false (Int.lt_irrefl _)
      exact PySem.W.kat_yes (PySem.W.kat_nil ⟨rfl, e3.symm⟩)
    · have e3 : (if x = x' then decide (y < y') else decide (x.cps.toList < x'.cps.toList)) = decide (y < y') := if_pos ex
      refine PySem.W.kat_no (PySem.W.kat_one _ _ (PyProof.Rows.lt_int ?_))
      exact (show s = s ∧ decide (y < y') = (if x = x' then decide (y < y') else decide (x.cps.toList < x'.cps.toList)) from ⟨rfl, e3.symm⟩)
  · have ex : ¬ x = x' := by simpa using e1
    have e3 : (if x = x' then decide (y < y') else decide (x.cps.toList < x'.cps.toList)) = decide (x.cps.toList < x'.cps.toList) := if_neg ex
    exact PySem.W.kat_no (PyProof.Rows.oneLt_str ⟨rfl, e3.symm⟩)
theorem si_sortable {a : Addr} {vs : List Value} {k : Value → Str × Int} (h0 : 0 < vs.length) (hp : ∀ v ∈ vs, IsSI s.heap v (k v).1 (k v).2) (ha : ∀ o, s.heap.get? a = some o → o.cls ≠ .type "tuple") : SortableO prog w A s a vs fun v u => lexS (k v) (k u) := by
  intro h' keep
  have hp' : ∀ v ∈ vs, IsSI h' v (k v).1 (k v).2 := fun v hm => (hp v hm).keeps fun b o e c => keep b o (fun z => by subst z; exact ha o e c) e
  obtain ⟨fs, h1, h2, h3⟩ := firsts_si fun v hm => ⟨_, _, hp' v hm⟩
  refine ⟨tuples' true, fun Q E hq => ?_, si_cmp hp'⟩
  refine PySem.W.kat_kind (T := .type "str") h1 (by omega) (fun f hm => ?_) (by rfl) ?_
  · obtain ⟨x, t, rfl⟩ := h3 f hm
    exact PySem.W.Looks.now
  · have e : (Value.type "str" != Value.type "tuple") = true := by first | decide +kernel | rfl | decide
    rw [e]
    exact hq
end
end UPS
namespace UP
open PySem PySem.Spec PyProof.Rows L2 L2.DX
abbrev entK (e : Str × Int) : L2.Key × V := (Sum.inr e.1, V.int e.2)
def rItemsK : V → List V → Hp → VK → Prop := fun x xs H Q => ∃ (a : Addr) (kvs : List (L2.Key × V)), x = .ref a ∧ xs = [] ∧ H a = some (.dK kvs) ∧ ∀ p, H p = none → Q (.ref p) (upd H p (itemsO p a))
def rSortKI : List V → Hp → VK → Prop := fun vs H Q => ∃ (p a : Addr) (ks : List Run), vs = [.ref p] ∧ H p = some (itemsO p a) ∧ H a = some (.dK (ks.map entK)) ∧
  ∀ H' l out, Same H H' → H l = none → Runs H' l out → out.Perm ks → out.Pairwise (fun x y => UPS.lexS y x = false) → Q (.ref l) H'
section
variable {X : Cx}
theorem mt_itemsK : MtR X "dict.items" rItemsK := by
  intro pins s σ H x xs v us Q I rx rxs h
  obtain ⟨a, kvs, rfl, rfl, ha, q⟩ := h
  cases rx
  cases rxs
  obtain ⟨z, hd, vs, rel, dd⟩ := dk_of I.hok ha
  obtain ⟨es, ep, hr, _⟩ := dd.raw
  refine DT.callItems (es := es) (ep := ep) hd hr ?_
  have hf : H s.heap.objs.size = none := I.hok.fresh (Nat.le_refl _)
  exact ⟨.ref s.heap.objs.size, upd H s.heap.objs.size (itemsO s.heap.objs.size a), I.laid (t' := s.toks) (fun b u e => Heap.get?_push_of_some _ e) (Nat.le_refl _) (itemsO_ok (Heap.get?_push_size _ rfl)), rfl, q _ hf⟩
theorem kV_str {k : Str} {P : Program} {w : World} {u : Value} (h : (mixKind P w).is (Sum.inr k) u = true) : ∃ t, u = .str k t := Value.isStrOf_shape h
theorem paired_of {α β : Type} {F : α → β → Prop} : ∀ (l : List α) (f : α → β), (∀ a ∈ l, F a (f a)) → Paired F l (l.map f)
  | [], _, _ => .nil
  | a :: t, f, h => .cons (h a (List.mem_cons_self ..)) (paired_of t f fun b hb => h b (List.mem_cons_of_mem _ hb))
theorem paired_map {α α' β β' : Type} {F : α' → β' → Prop} (f : α → α') (g : β → β') : ∀ {l : List α} {m : List β}, Paired (fun a b => F (f a) (g b)) l m → Paired F (l.map f) (m.map g)
  | _, _, .nil => .nil
  | _, _, .cons h t => .cons h (paired_map f g t)
theorem cr_sortedKI (hc : X.calm = true) : CallR X (.builtin "sorted") rSortKI := by
  intro pins s σ H xs us Q I r h
  obtain ⟨p, a, ks, rfl, hp, ha, q⟩ := h
  obtain rfl := Vals.ref1 r
  have view : s.heap.IsItemsView p a := (show ObjOk X.prog X.w H s.heap p (itemsO p a) from I.hok p _ hp).1
  obtain ⟨z, hd, vs, rel, dd⟩ := dk_of I.hok ha
  obtain ⟨es, ep, hr, hsz, hget⟩ := dd.raw
  have l1 : (ks.map entK).length = vs.length := rel.length
  rw [List.length_map] at l1 z
  have hh : X.A.handled = none := I.ok.hd hc
  refine DT.sortedI (es := es) (ep := ep) hh view hr (by omega) fun h' tk as hk hlt hl hG => ?_
  have lak : as.length = ks.length := by omega
  have nd : as.Nodup := List.Pairwise.imp (fun h => Nat.ne_of_lt h) hG.rise
  -- the pairs that were made
  have pr : ∀ (j : Nat) (b : Addr), as[j]? = some b → ∃ (e : Run) (t u : Tok), ks[j]? = some e ∧ h'.get? b = some { cls := .type "tuple", data := .seq #[Value.str e.1 t, Value.int e.2 u] } := by
    intro j b hj
    obtain ⟨en, he, hg⟩ := hG.pairs j b hj
    have hjs : j < es.size := (Array.getElem?_eq_some_iff.mp he).1
    have hjk : j < ks.length := by omega
    have een : es[j] = en := (Array.getElem?_eq_some_iff.mp he).2
    have hjv : j < vs.length := by omega
    obtain ⟨y, ey, r1, r2⟩ := pget rel (List.getElem?_eq_getElem hjv)
    rw [List.getElem?_map, List.getElem?_eq_getElem hjk] at ey
    have ey : entK ks[j] = y := Option.some.inj ey
    have hv : vs[j]? = some ((Sum.inr (ks[j]).1 : L2.Key), (vs[j]).2) := by
      rw [List.getElem?_eq_getElem hjv]
      congr 1
      refine Prod.ext ?_ rfl
      rw [← r1, ← ey]
    obtain ⟨g1, g2⟩ := hget j hjs _ _ hv
    obtain ⟨t, et⟩ := kV_str g1
    rw [← ey] at r2
    obtain ⟨u, eu⟩ := (show ∃ u, (vs[j]).2 = Value.int (ks[j]).2 u from r2)
    refine ⟨ks[j], t, u, List.getElem?_eq_getElem hjk, ?_⟩
    rw [hg, ← een, et, g2, eu]
  have hob : (h'.push { cls := .type "list", data := .seq (as.map Value.ref).toArray }).get? h'.objs.size = some (seqObj "list" (as.map Value.ref).toArray 0) := Heap.get?_push_size _ rfl
  have kb : ∀ b o, s.heap.get? b = some o → (h'.push { cls := .type "list", data := .seq (as.map Value.ref).toArray }).get? b = some o := fun b o e => Heap.get?_push_of_some _ (hk b o e)
  have ne0 : ∀ b o, h'.get? b = some o → b ≠ h'.objs.size := fun b o e => Nat.ne_of_lt (Heap.lt_size e)
  generalize hh2 : h'.push { cls := .type "list", data := .seq (as.map Value.ref).toArray } = h2 at hob kb ⊢
  have ka : ∀ b o, h'.get? b = some o → h2.get? b = some o := fun b o e => by rw [← hh2]; exact Heap.get?_push_of_some _ e
  -- what stands for what
  obtain ⟨kf, hkf⟩ : ∃ kf : Value → Str × Int, ∀ (j : Nat) (b : Addr), as[j]? = some b → ks[j]? = some (kf (.ref b)) := by
    refine ⟨fun v => match v with | .ref b => (ks[as.idxOf b]?).getD ("", 0) | _ => ("", 0), fun j b hj => ?_⟩
    obtain ⟨hjl, ej⟩ := List.getElem?_eq_some_iff.mp hj
    have ei : as.idxOf b = j := by
      rw [← ej]
      exact List.Nodup.idxOf_getElem nd j hjl
    show ks[j]? = some ((ks[as.idxOf b]?).getD ("", 0))
    rw [ei, List.getElem?_eq_getElem (by omega)]
    rfl
  have pin : ∀ v ∈ as.map Value.ref, UPS.IsSI h2 v (kf v).1 (kf v).2 := by
    intro v hv'
    obtain ⟨b, hb, rfl⟩ := List.mem_map.mp hv'
    obtain ⟨j, hj⟩ := List.mem_iff_getElem?.mp hb
    obtain ⟨e, t, u, he, hg⟩ := pr j b hj
    have ek := hkf j b hj
    rw [he] at ek
    have ek := Option.some.inj ek
    rw [← ek]
    exact ⟨b, _, t, u, 0, rfl, ka _ _ hg, rfl, rfl⟩
  refine wpAny_call_entry PyProof.Rows.slot_list_sort ⟨_, hob, rfl⟩ PyProof.Rows.entry_list_sort
    (SrtO.list_sort_ord (s := { s with heap := h2, toks := tk }) (ltv := fun v u => UPS.lexS (kf v) (kf u)) ⟨fun x y => UPS.swoS.asym _ _, fun x y z => UPS.swoS.tr _ _ _⟩ hob (by rw [List.length_map]; omega) (fun h2' => ?_) fun out hs hb => ⟨_, rfl, ?_⟩) (PyProof.Rows.args_list_sort _)
  · refine UPS.si_sortable (s := { s with heap := h2, toks := tk }) (by omega) pin fun o e => ?_
    have e' : some o = some (seqObj "list" (as.map Value.ref).toArray 0) := e.symm.trans hob
    cases e'
    intro c
    exact absurd (Value.type.inj c) (by decide)
  · show EP X pins σ Q (.ref h'.objs.size) { s with heap := sortedHeap h2 h'.objs.size (as.map Value.ref) out.toArray, toks := tk }
    obtain ⟨zs, pz, ez⟩ : ∃ zs : List Addr, zs.Perm as ∧ zs.map Value.ref = out := by
      have := hb.perm
      obtain ⟨zs, p1, p2⟩ := perm_lift Value.ref this as rfl
      exact ⟨zs, p1, p2⟩
    have kF : ∀ b o, b ≠ h'.objs.size → h2.get? b = some o → (sortedHeap h2 h'.objs.size (as.map Value.ref) out.toArray).get? b = some o := fun b o hb e => (PyProof.Rows.sortedHeap_old hb (Heap.lt_size e)).trans e
    have kS : ∀ b o, s.heap.get? b = some o → (sortedHeap h2 h'.objs.size (as.map Value.ref) out.toArray).get? b = some o := fun b o e => kF b o (ne0 _ _ (hk b o e)) (kb b o e)
    obtain ⟨eF, heF⟩ := PyProof.Rows.sortedHeap_at (vs := as.map Value.ref) (out := out.toArray) hob
    have I1 : Inv X pins σ H { s with heap := sortedHeap h2 h'.objs.size (as.map Value.ref) out.toArray, toks := tk } := I.kept (t' := tk) kS
    have hn0 : H h'.objs.size = none := I.hok.fresh (Nat.le_of_lt hlt)
    have lz : zs.length = ks.length := by rw [pz.length_eq, lak]
    have I2 : Inv X pins σ (upd H h'.objs.size (.lst (zs.map V.ref))) { s with heap := sortedHeap h2 h'.objs.size (as.map Value.ref) out.toArray, toks := tk } :=
      I1.take (h' := sortedHeap h2 h'.objs.size (as.map Value.ref) out.toArray) (t' := tk) (fun b ob _ e => e) (I.fpOk (Nat.le_of_lt hlt) hn0) ⟨by rw [List.length_map, lz]; exact z, out, eF, by rw [← ez]; exact vals_maps (fun z : Addr => V.ref z) (fun z => Value.ref z) zs fun _ _ => rfl, heF⟩
    obtain ⟨H2, I3, g, qt⟩ := takeT (P := fun b vs => vs = [.str (kf (.ref b)).1, .int (kf (.ref b)).2]) I as _ I2 nd fun b hb => by
      obtain ⟨j, hj⟩ := List.mem_iff_getElem?.mp hb
      obtain ⟨e, t, u, he, hg⟩ := pr j b hj
      have ek := hkf j b hj
      rw [he] at ek
      have ek := Option.some.inj ek
      have hbl : s.heap.objs.size ≤ b := Nat.le_of_lt (hG.above b hb)
      refine ⟨hbl, ?_, [.str e.1, .int e.2], by rw [← ek], fun H3 => ⟨(by rw [sizeLine_eq]; show 2 ≤ 16777216; omega), [Value.str e.1 t, Value.int e.2 u], .cons ⟨t, rfl⟩ (.cons ⟨u, rfl⟩ .nil), ⟨_, kF _ _ (ne0 _ _ hg) (ka _ _ hg), rfl, 0, rfl⟩⟩⟩
      rw [upd_ne (ne0 _ _ hg)]
      exact I.hok.fresh hbl
    have gr : Same H H2 := fun b o e => g b o (by rw [upd_ne (ne_of_none e hn0)]; exact e)
    refine ⟨.ref h'.objs.size, H2, I3, rfl, q H2 h'.objs.size (zs.map fun b => kf (.ref b)) gr hn0 ⟨zs.map V.ref, g _ _ upd_same, ?_⟩ ?_ ?_⟩
    · refine paired_map V.ref (fun b => kf (.ref b)) ?_
      have := paired_of (F := fun (b : Addr) (c : Addr) => RunV H2 (V.ref b) (kf (.ref c))) zs id fun b hb => by
        obtain ⟨vs', e1, e2⟩ := qt b (pz.mem_iff.mp hb)
        rw [e1] at e2
        exact ⟨b, rfl, e2⟩
      rw [List.map_id] at this
      exact this
    · have e1 : (as.map fun b => kf (.ref b)) = ks := by
        refine List.ext_getElem? fun j => ?_
        rw [List.getElem?_map]
        cases hj : as[j]? with
        | none =>
          have : as.length ≤ j := List.getElem?_eq_none_iff.mp hj
          rw [List.getElem?_eq_none_iff.mpr (by omega)]
          rfl
        | some b =>
          rw [hkf j b hj]
          rfl
      rw [← e1]
      exact pz.map _
    · have hs : out.Pairwise (fun v u => UPS.lexS (kf u) (kf v) = false) := hs
      rw [← ez, List.pairwise_map] at hs
      rw [List.pairwise_map]
      exact hs
/-! ### sorted(list of runs) -/
def kyR (H : Hp) : V → Run
  | .ref t => match H t with
    | some (.tup [.str a, .int b]) => (a, b)
    | _ => ("", 0)
  | _ => ("", 0)
theorem kyR_of {H : Hp} {v : V} {r : Run} (h : RunV H v r) : kyR H v = r := by
  obtain ⟨t, rfl, ht⟩ := h
  show (match H t with | some (.tup [.str a, .int b]) => (a, b) | _ => (("" : Str), (0 : Int))) = r
  rw [ht]
def rSortR : List V → Hp → VK → Prop := fun vs H Q => ∃ (a : Addr) (ks : List Run), vs = [.ref a] ∧ Runs H a ks ∧
  ∀ H' l out, Same H H' → H l = none → Runs H' l out → out.Perm ks → out.Pairwise (fun x y => UPS.lexS y x = false) → Q (.ref l) H'
theorem kyR_map {H : Hp} : ∀ {xs : List V} {ks : List Run}, Paired (RunV H) xs ks → xs.map (kyR H) = ks
  | _, _, .nil => rfl
  | _, _, .cons h t => by rw [List.map_cons, kyR_of h, kyR_map t]
theorem paired_ky {H : Hp} : ∀ (xs : List V), (∀ x ∈ xs, ∃ r, RunV H x r) → Paired (RunV H) xs (xs.map (kyR H))
  | [], _ => .nil
  | x :: t, h => by
    obtain ⟨r, hr⟩ := h x (List.mem_cons_self ..)
    refine .cons ?_ (paired_ky t fun y hy => h y (List.mem_cons_of_mem _ hy))
    rw [kyR_of hr]
    exact hr
theorem paired_mem {α β : Type} {F : α → β → Prop} : ∀ {xs : List α} {ys : List β}, Paired F xs ys → ∀ x ∈ xs, ∃ y, F x y
  | _, _, .cons h t, x, hx => by
    rcases List.mem_cons.mp hx with e | hx
    · rw [e]
      exact ⟨_, h⟩
    · exact paired_mem t x hx
theorem cr_sortedR : CallR X (.builtin "sorted") rSortR := by
  intro pins s σ H vs us Q I r h
  obtain ⟨a, ks, rfl, ⟨xs, hx, hp⟩, q⟩ := h
  obtain ⟨its, rv, hl, hz⟩ := I.list (SqL.of hx)
  obtain rfl := Vals.ref1 r
  obtain ⟨e1, e2⟩ := refs_back rv fun x m => by
    obtain ⟨y, t, e, _⟩ := paired_mem hp x m
    exact ⟨t, e⟩
  refine SrtO.sorted_ord (ltv := fun v u => UPS.lexS (kyR H (backV v)) (kyR H (backV u))) ⟨fun x y => UPS.swoS.asym _ _, fun x y z => UPS.swoS.tr _ _ _⟩ hl.isList (by rw [← rv.length]; exact hz) (fun h2 h₁ a' ha kk => ?_) fun out hs hb => ?_
  · refine UPS.si_sortable (s := { s with heap := h₁ }) (k := fun u => kyR H (backV u)) (by omega) (fun v hv => ?_) fun o e => ?_
    · obtain ⟨t, rfl⟩ := e2 v hv
      have hm : V.ref t ∈ xs := by rw [e1]; exact List.mem_map.mpr ⟨_, hv, rfl⟩
      obtain ⟨y, hy⟩ := paired_mem hp _ hm
      rw [show kyR H (backV (.ref t)) = y from kyR_of hy]
      obtain ⟨t', e, ht⟩ := hy
      cases e
      obtain ⟨_, its2, r2, o, ho, hc, n, hd⟩ := I.hok _ _ ht
      obtain ⟨u1, u2, rfl, ri, rj⟩ := vals2 r2
      obtain ⟨t1, rfl⟩ := ri
      obtain ⟨t2, rfl⟩ := rj
      exact ⟨t, o, t1, t2, n, rfl, (kk _ _ ho).2, hc, hd⟩
    · have e' : some o = some (seqObj "list" its.toArray 0) := e.symm.trans ha
      cases e'
      intro c
      exact absurd (Value.type.inj c) (by decide)
  · have h3 : ∀ u ∈ out, ∃ a, u = Value.ref a := fun u hu => e2 u (hb.perm.mem_iff.mp hu)
    obtain ⟨n, hn⟩ := sortedAll_at s.heap its out.toArray
    have pm : (out.map backV).Perm xs := by
      rw [e1]
      exact hb.perm.map backV
    have hd : s.heap.objs.size ≤ s.heap.objs.size + 1 := Nat.le_succ _
    have hn0 := I.hok.fresh hd
    refine ⟨.ref _, upd H (s.heap.objs.size + 1) (.lst (out.map backV)), I.laid (t' := s.toks) (fun b o e => sortedAll_old e) hd ⟨?_, out, n, vals_back h3, hn⟩, rfl, q _ _ ((out.map backV).map (kyR H)) (same_upd hn0) hn0 ⟨_, upd_same, ?_⟩ ?_ ?_⟩
    · rw [pm.length_eq]
      exact hz
    · exact Paired.imp (fun _ _ => RunV.same (same_upd hn0)) (paired_ky _ fun x hx => paired_mem hp x (pm.mem_iff.mp hx))
    · rw [← kyR_map hp]
      exact pm.map _
    · rw [List.pairwise_map, List.pairwise_map]
      exact hs
end
end UP

set_option Elab.async false
set_option linter.all false
set_option maxRecDepth 100000
set_option maxHeartbeats 4000000
namespace UP
open PySem PySem.Spec PyProof.Rows L2
def topS (i : Nat) : Stmt := PySem.Challenge.pw_unlikepairs_k04_sequence_errors.main.body.getD i (.Pass ⟨0, 0, 0, 0⟩)
structure Tx (mg : Str → Option Value) : Prop where
  n_isinstance : mg "isinstance" = none
  n_int : mg "int" = none
  n_bool : mg "bool" = none
  n_str : mg "str" = none
  n_list : mg "list" = none
  n_tuple : mg "tuple" = none
  n_len : mg "len" = none
  n_all : mg "all" = none
  n_zip : mg "zip" = none
  n_sum : mg "sum" = none
  n_min : mg "min" = none
  n_max : mg "max" = none
  n_abs : mg "abs" = none
  n_range : mg "range" = none
  n_repr : mg "repr" = none
  n_enumerate : mg "enumerate" = none
  n_any : mg "any" = none
  n_dict : mg "dict" = none
  n_sorted : mg "sorted" = none
  n_set : mg "set" = none
  n_reversed : mg "reversed" = none
  n_ValueError : mg "ValueError" = none
  c_MAX_LETTERS : ∃ t, mg "MAX_LETTERS" = some (.int 8 t)
  c_MAX_RUNS : ∃ t, mg "MAX_RUNS" = some (.int 400 t)
  c_MAX_ITEMS : ∃ t, mg "MAX_ITEMS" = some (.int 400 t)
  c_MAX_COUNT : ∃ t, mg "MAX_COUNT" = some (.int 1000000000000000000000000000000 t)
section
variable {P : Program} {w : World} {K : PySem.W.Frag} {mg : Str → Option Value} {base : Heap}
/-! is_whole: slots 0:value -/
abbrev s_is_whole : Stmt := topS 26
theorem sc_is_whole : FnScope ["value"] ["value"] (defScope s_is_whole) := ⟨rfl, rfl, rfl, by decide +kernel, rfl, by decide +kernel, by decide +kernel⟩
def sp_is_whole : Sp := fun vs H Q _ => ∃ n : Int, vs = [.int n] ∧ Q (.bl true) H
theorem ok_is_whole (D : Df K mg "is_whole" s_is_whole) (T : Tx mg) : Has P w K mg base 1 "is_whole" ["value"] sp_is_whole := by
  refine has_of D sc_is_whole (fun _ _ _ _ _ _ us hl => match us, hl with | [_], _ => rfl) (fun vs H Q E h => ?_) (fun f cdv A outer s H vs Q E hr h => ?_)
  · obtain ⟨n, rfl, _⟩ := h
    rfl
  · obtain ⟨n, rfl, q⟩ := h
    refine ⟨_, (pss_one (ps_ret (pe_and (pe_callB call_isi (by rfl) T.n_isinstance (by decide +kernel) (pa_cons (pv 0) (pa_cons (pe_bltn (v := .ty "int") (by rfl) T.n_int (by decide +kernel) rfl) pa_nil))) (pe_one (pe_not (pe_callB call_isi (by rfl) T.n_isinstance (by decide +kernel) (pa_cons (pv 0) (pa_cons (pe_bltn (v := .ty "bool") (by rfl) T.n_bool (by decide +kernel) rfl) pa_nil)))))))), ?_⟩
    exact ⟨_, rfl, _, _, _, _, true, rfl, .ty "int", .base (.int n), kit_ty (by decide +kernel), true, rfl, iteT ⟨_, rfl, _, _, _, _, false, rfl, .ty "bool", .base (.int n), kit_ty (by decide +kernel), false, rfl, q⟩⟩
/-! is_within: slots 0:value 1:low 2:high -/
abbrev s_is_within : Stmt := topS 27
theorem sc_is_within : FnScope ["value", "low", "high"] ["value", "low", "high"] (defScope s_is_within) := ⟨rfl, rfl, rfl, by decide +kernel, rfl, by decide +kernel, by decide +kernel⟩
def sp_is_within : Sp := fun vs H Q _ => ∃ n lo hi : Int, vs = [.int n, .int lo, .int hi] ∧ Q (.bl (decide (lo ≤ n ∧ n ≤ hi))) H
theorem ok_is_within (D : Df K mg "is_within" s_is_within) (G_is_whole : Has P w K mg base 1 "is_whole" ["value"] sp_is_whole) : Has P w K mg base 2 "is_within" ["value", "low", "high"] sp_is_within := by
  refine has_of D sc_is_within (fun _ _ _ _ _ _ us hl => match us, hl with | [_, _, _], _ => rfl) (fun vs H Q E h => ?_) (fun f cdv A outer s H vs Q E hr h => ?_)
  · obtain ⟨n, lo, hi, rfl, _⟩ := h
    rfl
  · obtain ⟨n, lo, hi, rfl, q⟩ := h
    refine ⟨_, (pss_one (ps_ret (pe_and (pe_callH G_is_whole (hr.mono (by omega)) (by rfl) (pa_cons (pv 0) pa_nil)) (pe_one (pe_chain op_le op_le (pv 1) (pv 0) (pv 2)))))), ?_⟩
    refine ⟨_, rfl, n, rfl, true, rfl, iteT ⟨_, rfl, _, rfl, _, _, rfl, rfl, _, rfl, ite2 (fun e => ?_) (fun e => ?_)⟩⟩
    · have e := of_decide_eq_true e
      refine ⟨_, rfl, _, _, rfl, rfl, ?_⟩
      show Q (.bl (decide (n ≤ hi))) H
      rw [show decide (n ≤ hi) = decide (lo ≤ n ∧ n ≤ hi) by simp [e]]
      exact q
    · have e : ¬ lo ≤ n := fun z => e (decide_eq_true z)
      show Q (.bl false) H
      rw [show false = decide (lo ≤ n ∧ n ≤ hi) by simp [e]]
      exact q
theorem kit_lst {K : PySem.W.Frag} : PySem.W.kitAny K (.type "list") [.type "list", .type "tuple"] = some true := kitAny_cons (b := true) (kit_ty (by decide +kernel)) (fun z => nomatch z) (fun _ => rfl)
theorem kit_tup {K : PySem.W.Frag} : PySem.W.kitAny K (.type "tuple") [.type "list", .type "tuple"] = some true := kitAny_cons (b := false) (kit_ty (by decide +kernel)) (fun _ => kitAny_cons (b := true) (kit_ty (by decide +kernel)) (fun z => nomatch z) (fun _ => rfl)) (fun z => nomatch z)
/-! is_listed: slots 0:value 1:most -/
abbrev s_is_listed : Stmt := topS 28
theorem sc_is_listed : FnScope ["value", "most"] ["value", "most"] (defScope s_is_listed) := ⟨rfl, rfl, rfl, by decide +kernel, rfl, by decide +kernel, by decide +kernel⟩
def sp_is_listed : Sp := fun vs H Q _ => ∃ (a : Addr) (xs : List V) (m : Int), vs = [.ref a, .int m] ∧ Sq2 H a xs ∧ ∀ H', Same H H' → Q (.bl (decide ((xs.length : Int) ≤ m))) H'
theorem ok_is_listed (D : Df K mg "is_listed" s_is_listed) (T : Tx mg) : Has P w K mg base 1 "is_listed" ["value", "most"] sp_is_listed := by
  refine has_of D sc_is_listed (fun _ _ _ _ _ _ us hl => match us, hl with | [_, _], _ => rfl) (fun vs H Q E h => ?_) (fun f cdv A outer s H vs Q E hr h => ?_)
  · obtain ⟨a, xs, m, rfl, _⟩ := h
    rfl
  · obtain ⟨a, xs, m, rfl, hx, q⟩ := h
    refine ⟨_, (pss_one (ps_ret (pe_and (pe_callB call_isiT (by rfl) T.n_isinstance (by decide +kernel) (pa_cons (pv 0) (pa_cons (pe_tup (pa_cons (pe_bltn (v := .ty "list") (by rfl) T.n_list (by decide +kernel) rfl) (pa_cons (pe_bltn (v := .ty "tuple") (by rfl) T.n_tuple (by decide +kernel) rfl) pa_nil))) pa_nil))) (pe_one (pe_cmpR op_le (pe_callB call_len_seq (by rfl) T.n_len (by decide +kernel) (pa_cons (pv 0) pa_nil)) (pv 1) (nomark _)))))), ?_⟩
    refine ⟨_, rfl, (by show 2 ≤ sizeLine; decide), fun t nt => ?_⟩
    rcases hx with hx | hx
    · refine ⟨_, t, _, _, _, true, rfl, upd_same, .cons (.ty "list") (.cons (.ty "tuple") .nil), .base (.lst (same_upd nt _ _ hx)), kit_lst, true, rfl, iteT ?_⟩
      exact ⟨_, rfl, _, _, rfl, .inl (.of (same_upd nt _ _ hx)), _, rfl, _, _, rfl, rfl, q _ (same_upd nt)⟩
    · refine ⟨_, t, _, _, _, true, rfl, upd_same, .cons (.ty "list") (.cons (.ty "tuple") .nil), .base (.tup (same_upd nt _ _ hx)), kit_tup, true, rfl, iteT ?_⟩
      exact ⟨_, rfl, _, _, rfl, .inr (.of (same_upd nt _ _ hx)), _, rfl, _, _, rfl, rfl, q _ (same_upd nt)⟩
/-! is_couple: slots 0:value -/
abbrev s_is_couple : Stmt := topS 29
theorem sc_is_couple : FnScope ["value"] ["value"] (defScope s_is_couple) := ⟨rfl, rfl, rfl, by decide +kernel, rfl, by decide +kernel, by decide +kernel⟩
def sp_is_couple : Sp := fun vs H Q _ => ∃ (a : Addr) (xs : List V), vs = [.ref a] ∧ Sq2 H a xs ∧ xs.length = 2 ∧ ∀ H', Same H H' → Q (.bl true) H'
theorem ok_is_couple (D : Df K mg "is_couple" s_is_couple) (T : Tx mg) : Has P w K mg base 1 "is_couple" ["value"] sp_is_couple := by
  refine has_of D sc_is_couple (fun _ _ _ _ _ _ us hl => match us, hl with | [_], _ => rfl) (fun vs H Q E h => ?_) (fun f cdv A outer s H vs Q E hr h => ?_)
  · obtain ⟨a, xs, rfl, _⟩ := h
    rfl
  · obtain ⟨a, xs, rfl, hx, hl, q⟩ := h
    refine ⟨_, (pss_one (ps_ret (pe_and (pe_callB call_isiT (by rfl) T.n_isinstance (by decide +kernel) (pa_cons (pv 0) (pa_cons (pe_tup (pa_cons (pe_bltn (v := .ty "list") (by rfl) T.n_list (by decide +kernel) rfl) (pa_cons (pe_bltn (v := .ty "tuple") (by rfl) T.n_tuple (by decide +kernel) rfl) pa_nil))) pa_nil))) (pe_one (pe_cmpR op_eq (pe_callB call_len_seq (by rfl) T.n_len (by decide +kernel) (pa_cons (pv 0) pa_nil)) pe_int (nomark _)))))), ?_⟩
    refine ⟨_, rfl, (by show 2 ≤ sizeLine; decide), fun t nt => ?_⟩
    rcases hx with hx | hx
    · refine ⟨_, t, _, _, _, true, rfl, upd_same, .cons (.ty "list") (.cons (.ty "tuple") .nil), .base (.lst (same_upd nt _ _ hx)), kit_lst, true, rfl, iteT ⟨_, rfl, _, _, rfl, .inl (.of (same_upd nt _ _ hx)), rfl, ?_⟩⟩
      rw [hl]
      exact q _ (same_upd nt)
    · refine ⟨_, t, _, _, _, true, rfl, upd_same, .cons (.ty "list") (.cons (.ty "tuple") .nil), .base (.tup (same_upd nt _ _ hx)), kit_tup, true, rfl, iteT ⟨_, rfl, _, _, rfl, .inr (.of (same_upd nt _ _ hx)), rfl, ?_⟩⟩
      rw [hl]
      exact q _ (same_upd nt)
end
end UP

set_option Elab.async false
set_option linter.all false
set_option maxRecDepth 100000
set_option maxHeartbeats 4000000
namespace UP
open PySem PySem.Spec PyProof.Rows L2
theorem iteP {b : Bool} {A B : Prop} (h : b = true) (x : A) : if b = true then A else B := by
  rw [if_pos h]
  exact x
theorem iteN {b : Bool} {A B : Prop} (h : b = false) (x : B) : if b = true then A else B := by
  rw [if_neg (by rw [h]; decide)]
  exact x
theorem yesT {σ : L2.St} {H : Hp} {A B : Hp → Prop} (h : A H) : tYes σ H (fun b H3 => if b = true then A H3 else B H3) := by
  show (if true = true then A H else B H)
  exact iteT h
theorem lc_gen {J : It} {n : Nat} {g : TG} {tt : TT} {te : TE} {vs : List Nat} {σ : L2.St} {H1 : Hp} {D : Addr} {Qd : Hp → Prop} (Pv : Nat → Hp → Prop) (h0 : Pv 0 (upd H1 D (.lst [])))
    (hg : ∀ i H, i < n → Pv i H → J.go i H) (hst : ∀ H, Pv n H → J.stop n H)
    (hs : ∀ i x H H', i < n → Pv i H → J.yld i H x H' → g x (wipe σ vs) H' fun σ2 H2 => wipe σ2 vs = wipe σ vs ∧ tt σ2 H2 fun b H3 =>
      if b = true then te σ2 H3 fun y H4 => ∃ acc, H4 D = some (.lst acc) ∧ acc.length < sizeLine ∧ Pv (i + 1) (upd H4 D (.lst (acc ++ [y]))) else Pv (i + 1) H3) (hd : ∀ H, Pv n H → Qd H) :
    ∃ W : Nat → Nat → Hp → Prop, (∃ m, W 0 m (upd H1 D (.lst []))) ∧ ∀ i m H, W i m H →
      (J.stop i H ∧ Qd H) ∨ (J.go i H ∧ ∃ Nx : Hp → Prop, (∀ H', Nx H' → ∃ m', m' < m ∧ W (i + 1) m' H') ∧ ∀ x H', J.yld i H x H' → g x (wipe σ vs) H' fun σ2 H2 => wipe σ2 vs = wipe σ vs ∧ tt σ2 H2 fun b H3 =>
        if b = true then te σ2 H3 fun y H4 => ∃ acc, H4 D = some (.lst acc) ∧ acc.length < sizeLine ∧ Nx (upd H4 D (.lst (acc ++ [y]))) else Nx H3) := by
  refine ⟨fun i m H => m = n - i ∧ i ≤ n ∧ Pv i H, ⟨n, by simp, Nat.zero_le _, h0⟩, ?_⟩
  rintro i m H ⟨rfl, hi, p⟩
  by_cases hlt : i < n
  · exact .inr ⟨hg i H hlt p, Pv (i + 1), fun H' p' => ⟨n - (i + 1), by omega, rfl, hlt, p'⟩, fun x H' y => hs i x H H' hlt p y⟩
  · have e : i = n := by omega
    subst e
    exact .inl ⟨hst H p, hd H p⟩
section
variable {X : Cx} {K : PySem.W.Frag}
theorem ix_tupK (h : X.K = K) : IxR X (rIxT K) := h ▸ ix_tup
theorem ix_listK (h : X.K = K) : IxR X (rIxL K) := h ▸ ix_list
theorem pg_tupK {es : List Expr} {k : Nat} {t : TGs} {n : Nat} {pos : Pos} (h : X.K = K) (hc : X.calm = true) (hp : PGs X es t)
    (hn : (assignEach es X.env).length = n := by rfl) (hst : (assignEach es X.env).findIdx? (fun z => z.1) = none := by rfl) : PG X (.Tuple es k pos) (gTup K n t) := by
  subst h
  exact pg_tup hc hp hn hst
theorem call_len_seqK (h : X.K = K) : CallR X (.builtin "len") (fun xs H Q => ∃ p ys, xs = [.ref p] ∧ (SqL K H p ys ∨ SqT K H p ys) ∧ Q (.int ys.length) H) := by
  subst h
  exact call_len_seq
end
theorem ix_seqK {X : Cx} {K : PySem.W.Frag} (h : X.K = K) : IxR X (rIx K) := h ▸ ix_seq
/-! ### lists that grow -/
theorem same_grow {H H4 : Hp} {D : Addr} {o : HO} (n : H D = none) (s : Same H H4) : Same H (upd H4 D o) := fun b x e => by
  rw [upd_ne (ne_of_none e n)]
  exact s b x e
theorem RunV.grow {H : Hp} {D : Addr} {acc acc' : List V} {v : V} {r : Run} (hD : H D = some (.lst acc)) (h : RunV H v r) : RunV (upd H D (.lst acc')) v r := by
  obtain ⟨t, e, h⟩ := h
  refine ⟨t, e, ?_⟩
  rw [upd_ne (ne_of h hD (by intro q; cases q))]
  exact h
theorem prs_grow {H : Hp} {D : Addr} {acc acc' : List V} {xs : List V} {rs : List Run} (hD : H D = some (.lst acc)) (h : Paired (RunV H) xs rs) : Paired (RunV (upd H D (.lst acc'))) xs rs := Paired.imp (fun _ _ => RunV.grow hD) h
theorem prs_same {H H' : Hp} {xs : List V} {rs : List Run} (s : Same H H') (h : Paired (RunV H) xs rs) : Paired (RunV H') xs rs := Paired.imp (fun _ _ => RunV.same s) h
theorem take_snoc {α : Type} {l : List α} {i : Nat} {x : α} (h : l[i]? = some x) : l.take (i + 1) = l.take i ++ [x] := by
  rw [List.take_add_one, h]
  rfl
theorem lc_wk {J : It} {H0 H1 : Hp} {xs : List V} {g : TG} {tt : TT} {te : TE} {vs : List Nat} {σ : L2.St} {D : Addr} {Qd : Hp → Prop} (wk : Wk J H0 xs) (Pv : Nat → Hp → Prop) (hsm : ∀ i H, Pv i H → Same H0 H) (h0 : Pv 0 (upd H1 D (.lst [])))
    (hs : ∀ i x H, xs[i]? = some x → Pv i H → g x (wipe σ vs) H fun σ2 H2 => wipe σ2 vs = wipe σ vs ∧ tt σ2 H2 fun b H3 =>
      if b = true then te σ2 H3 fun y H4 => ∃ acc, H4 D = some (.lst acc) ∧ acc.length < sizeLine ∧ Pv (i + 1) (upd H4 D (.lst (acc ++ [y]))) else Pv (i + 1) H3) (hd : ∀ H, Pv xs.length H → Qd H) :
    ∃ W : Nat → Nat → Hp → Prop, (∃ m, W 0 m (upd H1 D (.lst []))) ∧ ∀ i m H, W i m H →
      (J.stop i H ∧ Qd H) ∨ (J.go i H ∧ ∃ Nx : Hp → Prop, (∀ H', Nx H' → ∃ m', m' < m ∧ W (i + 1) m' H') ∧ ∀ x H', J.yld i H x H' → g x (wipe σ vs) H' fun σ2 H2 => wipe σ2 vs = wipe σ vs ∧ tt σ2 H2 fun b H3 =>
        if b = true then te σ2 H3 fun y H4 => ∃ acc, H4 D = some (.lst acc) ∧ acc.length < sizeLine ∧ Nx (upd H4 D (.lst (acc ++ [y]))) else Nx H3) := by
  refine lc_gen Pv h0 (fun i H hi p => wk.go i H (hsm i H p) hi) (fun H p => wk.stop H (hsm _ H p)) (fun i x H H' hi p y => ?_) hd
  obtain ⟨e, ex⟩ := wk.yld i x H H' (hsm i H p) y
  subst e
  exact hs i x _ ex p
theorem for_wk {J : It} {H0 H : Hp} {xs : List V} {g : TG} {tb : TS} {D : Ends} {σ : L2.St} (wk : Wk J H0 xs) (Pv : Nat → L2.St → Hp → Prop) (hsm : ∀ i σ H, Pv i σ H → Same H0 H) (h0 : Pv 0 σ H)
    (hs : ∀ i x σ H, xs[i]? = some x → Pv i σ H → g x σ H fun σ2 H2 => tb { D with nx := Pv (i + 1), ct := Pv (i + 1), bk := D.nx } σ2 H2) (hd : ∀ σ H, Pv xs.length σ H → D.nx σ H) :
    ∃ W : Nat → Nat → L2.St → Hp → Prop, (∃ m, W 0 m σ H) ∧ ∀ i m σ H, W i m σ H →
      (J.stop i H ∧ D.nx σ H) ∨ (J.go i H ∧ ∃ N : L2.St → Hp → Prop, (∀ σ' H', N σ' H' → ∃ m', m' < m ∧ W (i + 1) m' σ' H') ∧ ∀ x H', J.yld i H x H' → g x σ H' fun σ2 H2 => tb { D with nx := N, ct := N, bk := D.nx } σ2 H2) := by
  refine ⟨fun i m σ H => m = xs.length - i ∧ i ≤ xs.length ∧ Pv i σ H, ⟨xs.length, by omega, Nat.zero_le _, h0⟩, ?_⟩
  rintro i m σ H ⟨rfl, hi, p⟩
  by_cases hlt : i < xs.length
  · refine Or.inr ⟨wk.go i H (hsm i σ H p) hlt, Pv (i + 1), fun σ' H' p' => ⟨xs.length - (i + 1), by omega, rfl, hlt, p'⟩, fun x H' y => ?_⟩
    obtain ⟨e, ex⟩ := wk.yld i x H H' (hsm i σ H p) y
    subst e
    exact hs i x σ _ ex p
  · have e : i = xs.length := by omega
    subst e
    exact Or.inl ⟨wk.stop H (hsm _ σ H p), hd σ H p⟩
section
variable {P : Program} {w : World} {K : PySem.W.Frag} {mg : Str → Option Value} {base : Heap}
theorem lex1 {c d : Nat} : (!decide (([c] : List Nat) < [d])) = decide (d ≤ c) := by
  have e : (([c] : List Nat) < [d]) ↔ c < d := by
    rw [List.cons_lt_cons_iff]
    simp
  by_cases h : c < d
  · rw [decide_eq_true (e.mpr h), decide_eq_false (by omega)]
    rfl
  · rw [decide_eq_false (fun z => h (e.mp z)), decide_eq_true (by omega)]
    rfl
/-! is_kind: slots 0:value 1:letter -/
abbrev s_is_kind : Stmt := topS 30
theorem sc_is_kind : FnScope ["value", "letter"] ["value"] (defScope s_is_kind) := ⟨rfl, rfl, rfl, by decide +kernel, rfl, by decide +kernel, by decide +kernel⟩
def sp_is_kind : Sp := fun vs H Q _ => ∃ z : Str, vs = [.str z] ∧ KindOk z ∧ ∀ H', Same H H' → Q (.bl true) H'
theorem ok_is_kind (D : Df K mg "is_kind" s_is_kind) (T : Tx mg) : Has P w K mg base 1 "is_kind" ["value"] sp_is_kind := by
  refine has_of D sc_is_kind (fun _ _ _ _ _ _ us hl => match us, hl with | [_], _ => rfl) (fun vs H Q E h => ?_) (fun f cdv A outer s H vs Q E hr h => ?_)
  · obtain ⟨n, rfl, _⟩ := h
    rfl
  · obtain ⟨z, rfl, ⟨k1, k2, k3⟩, q⟩ := h
    refine ⟨_, (pss_cons (ps_if (PW.pt (pw_or (pt_not (pt_val (pe_callB call_isi (by rfl) T.n_isinstance (by decide +kernel) (pa_cons (pv 0) (pa_cons (pe_bltn (v := .ty "str") (by rfl) T.n_str (by decide +kernel) rfl) pa_nil))))) (pw_or1 (pt_not (pt_chain op_le op_le pe_int (pe_callB call_len_str (by rfl) T.n_len (by decide +kernel) (pa_cons (pv 0) pa_nil)) (pe_glI T.c_MAX_LETTERS (by rfl))))))) (pss_one (ps_ret pe_bl)) pss_nil)
    (pss_one (ps_ret (pe_callB (cr_all rfl) (by rfl) T.n_all (by decide +kernel) (pa_cons (pe_lc (own := [("letter", 1)]) rfl sc_is_kind.nd (pi_str (pv 0)) (blkOk_by (N := ["value", "letter"]) (sc := defScope s_is_kind) (by decide +kernel)) (fun _ _ _ _ _ => (pg_name (i := 1) sc_is_kind.nd rfl (by first | exact Or.inl rfl | exact Or.inr rfl))) (fun _ _ _ _ _ => pts_nil) (fun _ _ _ _ _ => (pe_chain op_le_str op_le_str pe_str (pv 1) pe_str))) pa_nil))))), ?_⟩
    refine ⟨_, rfl, _, _, _, _, true, rfl, .ty "str", .base (.str z), kit_ty (by decide +kernel), true, rfl, iteF ?_⟩
    refine ⟨_, rfl, z, rfl, smallE (by omega), _, _, rfl, rfl, _, rfl, iteP (decide_eq_true (by omega)) ⟨_, _, rfl, rfl, _, rfl, iteN ?_ ?_⟩⟩
    · show (!decide ((z.length : Int) ≤ 8)) = false
      rw [decide_eq_true (by omega)]
      rfl
    refine ⟨_, rfl, z, rfl, fun L nL => lc_gen (n := z.cps.size) (fun i H' => Same H H' ∧ H' L = some (.lst ((List.replicate i true).map V.bl))) ⟨same_upd nL, upd_same⟩ (fun i H' hi _ => hi) (fun H' _ => Nat.le_refl _) (fun i x H1 H2 hi p y => ?_) (fun H' p => ?_)⟩
    · obtain ⟨rfl, c, ec, rfl⟩ := y
      obtain ⟨sm, hL⟩ := p
      have hc : 97 ≤ c ∧ c ≤ 122 := k3 c (by
        have := Array.mem_of_getElem? ec
        simpa using this)
      have ea : ("a" : Str).cps.toList = [97] := by decide +kernel
      have ez : ("z" : Str).cps.toList = [122] := by decide +kernel
      refine ⟨rfl, yesT ⟨_, rfl, _, _, rfl, rfl, _, rfl, iteP ?_ ⟨_, _, rfl, rfl, _, hL, ?_, ?_, ?_⟩⟩⟩
      · show (!decide (([c] : List Nat) < ("a" : Str).cps.toList)) = true
        rw [ea, lex1]
        exact decide_eq_true hc.1
      · simp only [List.length_map, List.length_replicate]
        exact small (by have : z.cps.size = z.length := rfl; omega)
      · intro b o e
        have nb : b ≠ L := ne_of_none e nL
        rw [upd_ne nb]
        exact sm b o e
      · rw [upd_same]
        have e1 : (!decide ((("z" : Str).cps.toList) < ([c] : List Nat))) = true := by
          rw [ez, lex1]
          exact decide_eq_true hc.2
        show some (HO.lst ((List.replicate i true).map V.bl ++ [V.bl (!decide ((("z" : Str).cps.toList) < ([c] : List Nat)))])) = _
        rw [e1, List.replicate_succ', List.map_append]
        rfl
    · refine ⟨L, _, rfl, .of p.2, ?_⟩
      have e : ((List.replicate z.cps.size true).all id) = true := by simp
      rw [e]
      exact q H' p.1
def StOk (st : Option Run) : Prop := ∀ r, st = some r → KindOk r.1 ∧ 1 ≤ r.2
theorem at0 {α : Type} {x y : α} : atI [x, y] 0 = some x := rfl
theorem at1 {α : Type} {x y : α} : atI [x, y] 1 = some y := rfl
theorem ix0 {K : PySem.W.Frag} {H : Hp} {t : Addr} {x y : V} {Q : VK} (h : Sq2 H t [x, y]) (q : Q x H) : rIx K (.ref t) (.int 0) H Q := h.elim (fun z => .inl ⟨t, _, 0, _, rfl, rfl, .of z, at0, q⟩) (fun z => .inr (.inl ⟨t, _, 0, _, rfl, rfl, .of z, at0, q⟩))
theorem ix1 {K : PySem.W.Frag} {H : Hp} {t : Addr} {x y : V} {Q : VK} (h : Sq2 H t [x, y]) (q : Q y H) : rIx K (.ref t) (.int 1) H Q := h.elim (fun z => .inl ⟨t, _, 1, _, rfl, rfl, .of z, at1, q⟩) (fun z => .inr (.inl ⟨t, _, 1, _, rfl, rfl, .of z, at1, q⟩))
theorem all_rep (n : Nat) : ((List.replicate n true).all id) = true := by simp
/-! is_run: slots 0:value -/
abbrev s_is_run : Stmt := topS 31
theorem sc_is_run : FnScope ["value"] ["value"] (defScope s_is_run) := ⟨rfl, rfl, rfl, by decide +kernel, rfl, by decide +kernel, by decide +kernel⟩
def sp_is_run : Sp := fun vs H Q _ => ∃ (v : V) (r : Run), vs = [v] ∧ RunG H v r ∧ RunOk r ∧ ∀ H', Same H H' → Q (.bl true) H'
theorem ok_is_run (D : Df K mg "is_run" s_is_run) (T : Tx mg) (G_is_couple : Has P w K mg base 1 "is_couple" ["value"] sp_is_couple) (G_is_kind : Has P w K mg base 1 "is_kind" ["value"] sp_is_kind) (G_is_within : Has P w K mg base 2 "is_within" ["value", "low", "high"] sp_is_within) :
    Has P w K mg base 3 "is_run" ["value"] sp_is_run := by
  refine has_of D sc_is_run (fun _ _ _ _ _ _ us hl => match us, hl with | [_], _ => rfl) (fun vs H Q E h => ?_) (fun f cdv A outer s H vs Q E hr h => ?_)
  · obtain ⟨v, r, rfl, _⟩ := h
    rfl
  · obtain ⟨v, r, rfl, ⟨t, rfl, ht⟩, ⟨k, c1, c2⟩, q⟩ := h
    refine ⟨_, (pss_one (ps_ret (pe_and (pe_callH G_is_couple (hr.mono (by omega)) (by rfl) (pa_cons (pv 0) pa_nil)) (pe_and (pe_callH G_is_kind (hr.mono (by omega)) (by rfl) (pa_cons (pe_ix ix_seq (pv 0) pe_int (fun _ _ => rfl)) pa_nil)) (pe_one (pe_callH G_is_within (hr.mono (by omega)) (by rfl) (pa_cons (pe_ix ix_seq (pv 0) pe_int (fun _ _ => rfl)) (pa_cons pe_int (pa_cons (pe_glI T.c_MAX_COUNT (by rfl)) pa_nil))))))))), ?_⟩
    refine ⟨_, rfl, t, _, rfl, ht, rfl, fun H1 s1 => ⟨true, rfl, iteT ?_⟩⟩
    refine ⟨_, rfl, ix0 (ht.same s1) ⟨r.1, rfl, k, fun H2 s2 => ⟨true, rfl, iteT ?_⟩⟩⟩
    refine ⟨_, rfl, ix1 ((ht.same s1).same s2) ⟨r.2, 1, _, rfl, ?_⟩⟩
    rw [decide_eq_true ⟨c1, c2⟩]
    exact q _ (s1.trans s2)
/-! is_sequence: slots 0:value 1:run 2:following -/
abbrev s_is_sequence : Stmt := topS 32
theorem sc_is_sequence : FnScope ["value", "run", "following"] ["value"] (defScope s_is_sequence) := ⟨rfl, rfl, rfl, by decide +kernel, rfl, by decide +kernel, by decide +kernel⟩
def sp_is_sequence : Sp := fun vs H Q _ => ∃ (v : V) (rs : List Run), vs = [v] ∧ RunsG H v rs ∧ SeqOk rs ∧ ∀ H', Same H H' → Q (.bl true) H'
theorem ok_is_sequence (D : Df K mg "is_sequence" s_is_sequence) (T : Tx mg) (G_is_listed : Has P w K mg base 1 "is_listed" ["value", "most"] sp_is_listed) (G_is_run : Has P w K mg base 3 "is_run" ["value"] sp_is_run) :
    Has P w K mg base 4 "is_sequence" ["value"] sp_is_sequence := by
  refine has_of D sc_is_sequence (fun _ _ _ _ _ _ us hl => match us, hl with | [_], _ => rfl) (fun vs H Q E h => ?_) (fun f cdv A outer s H vs Q E hr h => ?_)
  · obtain ⟨v, r, rfl, _⟩ := h
    rfl
  · obtain ⟨v, rs, rfl, ⟨a, xs, rfl, hx, hp⟩, ⟨l4, rok, alt⟩, q⟩ := h
    have lx : xs.length = rs.length := Paired.len hp
    refine ⟨_, (pss_cons (ps_if (PW.pt (pw_or (pt_not (pt_val (pe_callH G_is_listed (hr.mono (by omega)) (by rfl) (pa_cons (pv 0) (pa_cons (pe_glI T.c_MAX_RUNS (by rfl)) pa_nil))))) (pw_or1 (pt_not (pt_val (pe_callB (cr_all rfl) (by rfl) T.n_all (by decide +kernel) (pa_cons (pe_lc (own := [("run", 1)]) rfl sc_is_sequence.nd (pi_seqV 0) (blkOk_by (N := ["value", "run", "following"]) (sc := defScope s_is_sequence) (by decide +kernel)) (fun _ _ _ _ _ => (pg_name (i := 1) sc_is_sequence.nd rfl (by first | exact Or.inl rfl | exact Or.inr rfl))) (fun _ _ _ _ _ => pts_nil) (fun _ _ _ _ _ => (pe_callH G_is_run (hr.mono (by omega)) (by rfl) (pa_cons (pv 1) pa_nil)))) pa_nil))))))) (pss_one (ps_ret pe_bl)) pss_nil)
    (pss_one (ps_ret (pe_callB (cr_all rfl) (by rfl) T.n_all (by decide +kernel) (pa_cons (pe_lc (own := [("run", 1), ("following", 2)]) rfl sc_is_sequence.nd (pi_zip1 (i := 0) (RZ.pi_zipA (by rfl) T.n_zip (pa_cons (pv 0) (pa_cons (pe_slice (SlR.or sl_list sl_tupA) (pv 0) (po_some pe_int) po_none) pa_nil))) (fun _ _ _ q => ⟨1, rfl, q⟩) (fun _ _ _ q => q)) (blkOk_by (N := ["value", "run", "following"]) (sc := defScope s_is_sequence) (by decide +kernel)) (fun _ _ _ _ _ => (pg_tupK (K := K) (n := 2) rfl rfl (pgs_cons (pg_name (i := 1) sc_is_sequence.nd rfl (by first | exact Or.inl rfl | exact Or.inr rfl)) (pgs_cons (pg_name (i := 2) sc_is_sequence.nd rfl (by first | exact Or.inl rfl | exact Or.inr rfl)) pgs_nil)))) (fun _ _ _ _ _ => pts_nil) (fun _ _ _ _ _ => (pe_cmpR op_ne (pe_ix (ix_seqK (K := K) rfl) (pv 1) pe_int (fun _ _ => rfl)) (pe_ix (ix_seqK (K := K) rfl) (pv 2) pe_int (fun _ _ => rfl)) (nomark _)))) pa_nil))))), ?_⟩
    refine ⟨_, rfl, a, xs, 400, rfl, hx, fun H1 s1 => ⟨_, rfl, iteN ?_ ?_⟩⟩
    · show (!decide ((xs.length : Int) ≤ 400)) = false
      rw [decide_eq_true (by omega)]
      rfl
    refine ⟨a, xs, rfl, hx.same s1, fun J wk L nL => lc_wk wk (fun i H' => Same H1 H' ∧ H' L = some (.lst ((List.replicate i true).map V.bl))) (fun _ _ p => p.1) ⟨same_upd nL, upd_same⟩ (fun i x H2 ex p => ?_) (fun H2 p => ?_)⟩
    · obtain ⟨sm, hL⟩ := p
      obtain ⟨r, er, hr1⟩ := Paired.at hp ex
      have hi : i < xs.length := (List.getElem?_eq_some_iff.mp ex).1
      refine ⟨rfl, yesT ⟨_, rfl, x, r, rfl, RunG.same (s1.trans sm) hr1, rok r (List.mem_of_getElem? er), fun H3 s3 => ⟨_, s3 _ _ hL, ?_, same_grow nL (sm.trans s3), ?_⟩⟩⟩
      · simp only [List.length_map, List.length_replicate]
        exact small (by omega)
      · rw [upd_same, List.replicate_succ', List.map_append]
        rfl
    · refine ⟨L, _, rfl, .of p.2, _, rfl, iteN ?_ ?_⟩
      · rw [all_rep]
        rfl
      have s2 : Same H H2 := s1.trans p.1
      refine ⟨a, xs, rfl, hx.same s2, fun J Hc sc wk M nM => ?_⟩
      have sA : Same H Hc := s2.trans sc
      refine lc_gen (n := xs.length - 1) (fun i H' => Same Hc H' ∧ H' M = some (.lst ((List.replicate i true).map V.bl))) ⟨same_upd nM, upd_same⟩ (fun i H' hi p => wk.go i H' p.1 (by omega)) (fun H' p => wk.stop H' p.1) (fun i x H3 H4 hi p y => ?_) (fun H' p => ?_)
      · obtain ⟨T', x1, x2, rfl, nT, rfl, g1, g2⟩ := wk.yld i x H3 H4 p.1 y
        obtain ⟨sm, hM⟩ := p
        have g2 := g2 (by omega)
        have sB : Same H H3 := sA.trans sm
        obtain ⟨r1, e1, v1⟩ := Paired.at hp g1
        obtain ⟨r2, e2, v2⟩ := Paired.at hp g2
        obtain ⟨t1, rfl, w1⟩ := RunG.same (sB.trans (same_upd (o := .tup [x1, x2]) nT)) v1
        obtain ⟨t2, rfl, w2⟩ := RunG.same (sB.trans (same_upd (o := .tup [_, x2]) nT)) v2
        refine ⟨T', _, rfl, .of upd_same, rfl, _, _, rfl, _, _, rfl, rfl, rfl, yesT ?_⟩
        refine ⟨_, rfl, ix0 w1 ⟨_, rfl, ix0 w2 ⟨rfl, _, same_upd nT _ _ hM, ?_, same_grow nM (sm.trans (same_upd nT)), ?_⟩⟩⟩
        · simp only [List.length_map, List.length_replicate]
          exact small (by omega)
        · rw [upd_same, List.replicate_succ', List.map_append]
          have ne : (!decide (V.str r1.1 = V.str r2.1)) = true := by
            rw [decide_eq_false (fun z => alt i r1 r2 e1 e2 (V.str.inj z))]
            rfl
          rw [ne]
          rfl
      · refine ⟨M, _, rfl, .of p.2, ?_⟩
        rw [all_rep]
        exact q _ (sA.trans p.1)
/-! checked_runs: slots 0:sequence 1:kind 2:count -/
abbrev s_checked_runs : Stmt := topS 33
theorem sc_checked_runs : FnScope ["sequence", "kind", "count"] ["sequence"] (defScope s_checked_runs) := ⟨rfl, rfl, rfl, by decide +kernel, rfl, by decide +kernel, by decide +kernel⟩
def sp_checked_runs : Sp := fun vs H Q _ => ∃ (v : V) (rs : List Run), vs = [v] ∧ RunsG H v rs ∧ SeqOk rs ∧ ∀ H' p, Same H H' → H p = none → Runs H' p rs → Q (.ref p) H'
theorem ok_checked_runs (D : Df K mg "checked_runs" s_checked_runs) (T : Tx mg) (G_is_sequence : Has P w K mg base 4 "is_sequence" ["value"] sp_is_sequence) :
    Has P w K mg base 5 "checked_runs" ["sequence"] sp_checked_runs := by
  refine has_of D sc_checked_runs (fun _ _ _ _ _ _ us hl => match us, hl with | [_], _ => rfl) (fun vs H Q E h => ?_) (fun f cdv A outer s H vs Q E hr h => ?_)
  · obtain ⟨v, r, rfl, _⟩ := h
    rfl
  · obtain ⟨v, rs, rfl, hR, ok, q⟩ := h
    refine ⟨_, (pss_cons (ps_if (pt_not (pt_val (pe_callH G_is_sequence (hr.mono (by omega)) (by rfl) (pa_cons (pv 0) pa_nil)))) (pss_one ps_never) pss_nil)
    (pss_one (ps_ret (pe_lc (own := [("kind", 1), ("count", 2)]) rfl sc_checked_runs.nd (pi_seqV 0) (blkOk_by (N := ["sequence", "kind", "count"]) (sc := defScope s_checked_runs) (by decide +kernel)) (fun _ _ _ _ _ => (pg_any (n := 2) rfl (pgs_cons (pg_name (i := 1) sc_checked_runs.nd rfl (by first | exact Or.inl rfl | exact Or.inr rfl)) (pgs_cons (pg_name (i := 2) sc_checked_runs.nd rfl (by first | exact Or.inl rfl | exact Or.inr rfl)) pgs_nil)))) (fun _ _ _ _ _ => pts_nil) (fun _ _ _ _ _ => (pe_tup (pa_cons (pv 1) (pa_cons (pv 2) pa_nil)))))))), ?_⟩
    refine ⟨_, rfl, v, rs, rfl, hR, ok, fun H1 s1 => ⟨true, rfl, iteF ?_⟩⟩
    obtain ⟨a, xs, rfl, hx, hp⟩ := hR
    have lx : xs.length = rs.length := Paired.len hp
    refine ⟨a, xs, rfl, hx.same s1, fun J wk L nL => lc_wk wk (fun i H' => Same H1 H' ∧ ∃ ys, H' L = some (.lst ys) ∧ Paired (RunV H') ys (rs.take i)) (fun _ _ p => p.1) ⟨same_upd nL, [], upd_same, .nil⟩ (fun i x H2 ex p => ?_) (fun H2 p => ?_)⟩
    · obtain ⟨sm, ys, hL, hy⟩ := p
      obtain ⟨r, er, hr1⟩ := Paired.at hp ex
      have hi : i < xs.length := (List.getElem?_eq_some_iff.mp ex).1
      obtain ⟨t, rfl, ht⟩ := RunG.same (s1.trans sm) hr1
      refine ⟨t, _, rfl, ht, rfl, _, _, rfl, _, _, rfl, rfl, rfl, yesT ⟨_, rfl, _, rfl, (by show 2 ≤ sizeLine; decide), fun n nn => ⟨_, same_upd nn _ _ hL, ?_, same_grow nL (sm.trans (same_upd nn)), _, upd_same, ?_⟩⟩⟩
      · have := Paired.len hy
        rw [List.length_take] at this
        exact small (by have := ok.1; omega)
      · rw [take_snoc er]
        refine Paired.app (prs_grow (same_upd nn _ _ hL) (prs_same (same_upd nn) hy)) (.cons ?_ .nil)
        exact RunV.grow (same_upd nn _ _ hL) ⟨n, rfl, upd_same⟩
    · obtain ⟨sm, ys, hL, hy⟩ := p
      rw [lx, List.take_length] at hy
      exact q H2 L (s1.trans sm) (s1.free nL) ⟨ys, hL, hy⟩
end
end UP

set_option Elab.async false
set_option linter.all false
set_option maxRecDepth 100000
set_option maxHeartbeats 4000000
namespace UP
open PySem PySem.Spec PyProof.Rows L2
section
variable {P : Program} {w : World} {K : PySem.W.Frag} {mg : Str → Option Value} {base : Heap}
def lenR (rs : List Run) : Int := (rs.map (·.2)).sum
/-! length_of: slots 0:runs 1:kind 2:count -/
abbrev s_length_of : Stmt := topS 36
theorem sc_length_of : FnScope ["runs", "kind", "count"] ["runs"] (defScope s_length_of) := ⟨rfl, rfl, rfl, by decide +kernel, rfl, by decide +kernel, by decide +kernel⟩
def sp_length_of : Sp := fun vs H Q _ => ∃ (a : Addr) (rs : List Run), vs = [.ref a] ∧ Runs H a rs ∧ rs.length ≤ 1000 ∧ ∀ H', Same H H' → Q (.int (lenR rs)) H'
theorem ok_length_of (D : Df K mg "length_of" s_length_of) (T : Tx mg) : Has P w K mg base 1 "length_of" ["runs"] sp_length_of := by
  refine has_of D sc_length_of (fun _ _ _ _ _ _ us hl => match us, hl with | [_], _ => rfl) (fun vs H Q E h => ?_) (fun f cdv A outer s H vs Q E hr h => ?_)
  · obtain ⟨v, r, rfl, _⟩ := h
    rfl
  · obtain ⟨a, rs, rfl, ⟨xs, hx, hp⟩, l4, q⟩ := h
    have lx : xs.length = rs.length := Paired.len hp
    refine ⟨_, (pss_one (ps_ret (pe_callB (cr_sum rfl) (by rfl) T.n_sum (by decide +kernel) (pa_cons (pe_lc (own := [("kind", 1), ("count", 2)]) rfl sc_length_of.nd (pi_list (pv 0)) (blkOk_by (N := ["runs", "kind", "count"]) (sc := defScope s_length_of) (by decide +kernel)) (fun _ _ _ _ _ => (pg_tupK (K := K) (n := 2) rfl rfl (pgs_cons (pg_name (i := 1) sc_length_of.nd rfl (by first | exact Or.inl rfl | exact Or.inr rfl)) (pgs_cons (pg_name (i := 2) sc_length_of.nd rfl (by first | exact Or.inl rfl | exact Or.inr rfl)) pgs_nil)))) (fun _ _ _ _ _ => pts_nil) (fun _ _ _ _ _ => (pv 2))) pa_nil)))), ?_⟩
    refine ⟨_, rfl, a, rfl, ⟨xs, .of hx⟩, fun L nL => lc_list (K := K) (a := a) (xs := xs) (fun i H' => Same H H' ∧ H' L = some (.lst (((rs.map (·.2)).take i).map V.int))) ⟨same_upd nL, upd_same⟩ (fun i H' _ p => .of (p.1 _ _ hx)) (fun i x H2 ex p => ?_) (fun H2 p => ?_)⟩
    · obtain ⟨sm, hL⟩ := p
      obtain ⟨r, er, hr1⟩ := Paired.at hp ex
      have hi : i < xs.length := (List.getElem?_eq_some_iff.mp ex).1
      obtain ⟨t, rfl, ht⟩ := RunV.same sm hr1
      refine ⟨t, _, rfl, .of ht, rfl, _, _, rfl, _, _, rfl, rfl, rfl, yesT ⟨_, rfl, _, hL, ?_, same_grow nL sm, ?_⟩⟩
      · simp only [List.length_map, List.length_take]
        exact small (by omega)
      · rw [upd_same, take_snoc (x := r.2) (by rw [List.getElem?_map, er]; rfl), List.map_append]
        rfl
    · refine ⟨L, (rs.map (fun r : Run => r.2)), rfl, .of ?_, q H2 p.1⟩
      have := p.2
      rw [List.take_of_length_le (by rw [List.length_map]; omega)] at this
      exact this
end
end UP

set_option Elab.async false
set_option linter.all false
set_option maxRecDepth 100000
set_option maxHeartbeats 4000000
namespace UP
open PySem PySem.Spec PyProof.Rows L2
/-! ### the mirror of cut -/
theorem lenR_nil : lenR [] = 0 := rfl
theorem lenR_cons (r : Run) (l : List Run) : lenR (r :: l) = r.2 + lenR l := by
  unfold lenR
  rw [List.map_cons, List.sum_cons]
theorem lenR_app (l m : List Run) : lenR (l ++ m) = lenR l + lenR m := by
  induction l with
  | nil => rw [List.nil_append, lenR_nil]; omega
  | cons r t ih => rw [List.cons_append, lenR_cons, lenR_cons, ih]; omega
theorem lenR_snoc (l : List Run) (r : Run) : lenR (l ++ [r]) = lenR l + r.2 := by
  rw [lenR_app, lenR_cons, lenR_nil]
  omega
def sizeR (b s e c : Int) : Int := (if b + c < e then b + c else e) - (if b > s then b else s)
def pieceR (b s e : Int) (r : Run) : List Run := if 0 < sizeR b s e r.2 then [(r.1, sizeR b s e r.2)] else []
def cutR (s e : Int) : Int → List Run → List Run
  | _, [] => []
  | b, r :: t => pieceR b s e r ++ cutR s e (b + r.2) t
theorem cutR_snoc (s e : Int) : ∀ (l : List Run) (b : Int) (r : Run), cutR s e b (l ++ [r]) = cutR s e b l ++ pieceR (b + lenR l) s e r
  | [], b, r => by
    show pieceR b s e r ++ [] = [] ++ pieceR (b + lenR []) s e r
    rw [lenR_nil, Int.add_zero, List.append_nil, List.nil_append]
  | x :: t, b, r => by
    show pieceR b s e x ++ cutR s e (b + x.2) (t ++ [r]) = (pieceR b s e x ++ cutR s e (b + x.2) t) ++ pieceR (b + lenR (x :: t)) s e r
    rw [cutR_snoc s e t, lenR_cons, List.append_assoc, Int.add_assoc]
theorem pieceR_len (b s e : Int) (r : Run) : (pieceR b s e r).length ≤ 1 := by
  unfold pieceR
  split <;> simp
theorem cutR_len (s e : Int) : ∀ (l : List Run) (b : Int), (cutR s e b l).length ≤ l.length
  | [], _ => Nat.le_refl _
  | r :: t, b => by
    show (pieceR b s e r ++ cutR s e (b + r.2) t).length ≤ (r :: t).length
    have h1 := pieceR_len b s e r
    have h2 := cutR_len s e t (b + r.2)
    rw [List.length_append, List.length_cons]
    omega
section
variable {P : Program} {w : World} {K : PySem.W.Frag} {mg : Str → Option Value} {base : Heap}
/-! cut: slots 0:runs 1:start 2:length 3:end 4:part 5:before 6:kind 7:count 8:after 9:size -/
abbrev s_cut : Stmt := topS 37
theorem sc_cut : FnScope ["runs", "start", "length", "end", "part", "before", "kind", "count", "after", "size"] ["runs", "start", "length"] (defScope s_cut) := ⟨rfl, rfl, rfl, by decide +kernel, rfl, by decide +kernel, by decide +kernel⟩
def sp_cut : Sp := fun vs H Q _ => ∃ (a : Addr) (rs : List Run) (s l : Int), vs = [.ref a, .int s, .int l] ∧ Runs H a rs ∧ rs.length ≤ 1000 ∧ ∀ H' p, Same H H' → H p = none → Runs H' p (cutR s (s + l) 0 rs) → Q (.ref p) H'
theorem ok_cut (D : Df K mg "cut" s_cut) (T : Tx mg) : Has P w K mg base 1 "cut" ["runs", "start", "length"] sp_cut := by
  refine has_of D sc_cut (fun _ _ _ _ _ _ us hl => match us, hl with | [_, _, _], _ => rfl) (fun vs H Q E h => ?_) (fun f cdv A outer s₀ H vs Q E hr h => ?_)
  · obtain ⟨a, rs, s, l, rfl, _⟩ := h
    rfl
  · obtain ⟨a, rs, s, l, rfl, ⟨xs, hx, hp⟩, l4, q⟩ := h
    have lx : xs.length = rs.length := Paired.len hp
    refine ⟨_, (pss_cons (ps_set (i := 3) sc_cut.nd rfl (by first | exact Or.inl rfl | exact Or.inr rfl) (pe_op op_add (pv 1) (pv 2)))
    (pss_cons (ps_set (i := 4) sc_cut.nd rfl (by first | exact Or.inl rfl | exact Or.inr rfl) (pe_lst pa_nil))
    (pss_cons (ps_set (i := 5) sc_cut.nd rfl (by first | exact Or.inl rfl | exact Or.inr rfl) pe_int)
    (pss_cons (ps_for PassesOwn.never rfl (pi_list (pv 0)) (pg_tup rfl (pgs_cons (pg_name (i := 6) sc_cut.nd rfl (by first | exact Or.inl rfl | exact Or.inr rfl)) (pgs_cons (pg_name (i := 7) sc_cut.nd rfl (by first | exact Or.inl rfl | exact Or.inr rfl)) pgs_nil)))
      (pss_cons (ps_set (i := 8) sc_cut.nd rfl (by first | exact Or.inl rfl | exact Or.inr rfl) (pe_op op_add (pv 5) (pv 7)))
    (pss_cons (ps_set (i := 9) sc_cut.nd rfl (by first | exact Or.inl rfl | exact Or.inr rfl) (pe_op op_sub (pe_callB (call_min2 rfl) (by rfl) T.n_min (by decide +kernel) (pa_cons (pv 3) (pa_cons (pv 8) pa_nil))) (pe_callB (call_max2 rfl) (by rfl) T.n_max (by decide +kernel) (pa_cons (pv 1) (pa_cons (pv 5) pa_nil)))))
    (pss_cons (ps_if (pt_cmpR op_gt (pv 9) pe_int (nomark _)) (pss_one (ps_expr (pe_bm PySem.F.plainAttrs_list PySem.F.slot_list_append PySem.F.type_list_append mt_append (pv 4) (pa_cons (pe_tup (pa_cons (pv 6) (pa_cons (pv 9) pa_nil))) pa_nil)))) pss_nil)
    (pss_one (ps_set (i := 5) sc_cut.nd rfl (by first | exact Or.inl rfl | exact Or.inr rfl) (pv 8)))))))
    (pss_one (ps_ret (pv 4))))))), ?_⟩
    refine ⟨_, rfl, _, rfl, _, _, rfl, rfl, Nat.zero_le _, fun p np => ?_⟩
    refine ⟨_, rfl, a, rfl, ⟨xs, .of (same_upd np _ _ hx)⟩, for_list (K := K) (a := a) (xs := xs) (fun i σ H' => ∃ b y6 y7 y8 y9, b = lenR (rs.take i) ∧ σ = [some (.ref a), some (.int s), some (.int l), some (.int (s + l)), some (.ref p), some (.int b), y6, y7, y8, y9] ∧ Same H H' ∧ ∃ ys, H' p = some (.lst ys) ∧ Paired (RunV H') ys (cutR s (s + l) 0 (rs.take i)))
      ⟨0, none, none, none, none, rfl, rfl, same_upd np, [], upd_same, .nil⟩ (fun i σ H' _ hP => ?_) (fun i x σ H1 ex hP => ?_) (fun σ H1 hP => ?_)⟩
    · obtain ⟨_, _, _, _, _, _, _, sm, _⟩ := hP
      exact .of (sm _ _ hx)
    · obtain ⟨b, y6, y7, y8, y9, rfl, rfl, sm, ys, hL, hy⟩ := hP
      obtain ⟨r, er, hr1⟩ := Paired.at hp ex
      have hi : i < xs.length := (List.getElem?_eq_some_iff.mp ex).1
      obtain ⟨t, rfl, ht⟩ := RunV.same sm hr1
      have el : lenR (rs.take (i + 1)) = lenR (rs.take i) + r.2 := by rw [take_snoc er, lenR_snoc]
      have ec : cutR s (s + l) 0 (rs.take (i + 1)) = cutR s (s + l) 0 (rs.take i) ++ pieceR (lenR (rs.take i)) s (s + l) r := by
        rw [take_snoc er, cutR_snoc, Int.zero_add]
      refine ⟨t, _, rfl, .of ht, rfl, _, _, rfl, _, _, rfl, rfl, ?_⟩
      refine ⟨_, rfl, _, rfl, _, _, rfl, rfl, ?_⟩
      refine ⟨_, rfl, _, rfl, _, _, rfl, _, rfl, _, rfl, _, _, rfl, _, _, rfl, rfl, ?_⟩
      refine ⟨_, rfl, _, _, rfl, rfl, _, rfl, ite2 (fun e => ?_) (fun e => ?_)⟩
      · have e : 0 < sizeR (lenR (rs.take i)) s (s + l) r.2 := of_decide_eq_true e
        have epc : pieceR (lenR (rs.take i)) s (s + l) r = [(r.1, sizeR (lenR (rs.take i)) s (s + l) r.2)] := if_pos e
        refine ⟨_, rfl, .inl ⟨rfl, _, SqL.of hL⟩, _, rfl, _, rfl, (by show 2 ≤ sizeLine; decide), fun n nn => ⟨p, _, _, rfl, rfl, same_upd nn _ _ hL, ?_, ?_⟩⟩
        · have h1 := Paired.len hy
          have h2 := cutR_len s (s + l) (rs.take i) 0
          rw [List.length_take] at h2
          exact small (by omega)
        · refine ⟨_, rfl, _, _, _, _, _, el.symm, rfl, same_grow np (sm.trans (same_upd nn)), _, upd_same, ?_⟩
          · rw [ec, epc]
            exact Paired.app (prs_grow (same_upd nn _ _ hL) (prs_same (same_upd nn) hy)) (.cons (RunV.grow (same_upd nn _ _ hL) ⟨n, rfl, upd_same⟩) .nil)
      · have e : ¬ 0 < sizeR (lenR (rs.take i)) s (s + l) r.2 := fun z => e (decide_eq_true z)
        have epc : pieceR (lenR (rs.take i)) s (s + l) r = [] := if_neg e
        refine ⟨_, rfl, _, _, _, _, _, el.symm, rfl, sm, _, hL, ?_⟩
        · rw [ec, epc, List.append_nil]
          exact hy
    · obtain ⟨b, y6, y7, y8, y9, rfl, rfl, sm, ys, hL, hy⟩ := hP
      rw [lx, List.take_length] at hy
      exact ⟨_, rfl, q H1 p sm np ⟨ys, hL, hy⟩⟩
end
end UP

set_option Elab.async false
set_option linter.all false
set_option maxRecDepth 100000
set_option maxHeartbeats 4000000
namespace UP
open PySem PySem.Spec PyProof.Rows L2
/-! ### the mirror of the states -/
def numR : Option Run → Int
  | none => 0
  | some r => r.2
def leavR : Option Run → Str → Int → Int
  | none, _, _ => 0
  | some r, k, c => if r.1 = k then 0 else if c < r.2 then c else r.2
def stepR : Option Run → Str → Int → Option Run
  | some r, k, c => if r.1 = k then some (k, r.2 + c) else if 0 < r.2 - c then some (r.1, r.2 - c) else if r.2 - c = 0 then none else some (k, -(r.2 - c))
  | none, k, c => some (k, c)
def withR (k : Str) (n : Int) : Option Run := if n = 0 then none else some (k, n)
def stR (rs : List Run) (st : Option Run) : Option Run := rs.foldl (fun s r => stepR s r.1 r.2) st
theorem stR_snoc (l : List Run) (r : Run) (st : Option Run) : stR (l ++ [r]) st = stepR (stR l st) r.1 r.2 := by
  unfold stR
  rw [List.foldl_append]
  rfl
section
variable {P : Program} {w : World} {K : PySem.W.Frag} {mg : Str → Option Value} {base : Heap}
/-! part_of: slots 0:sequence 1:start 2:length 3:runs 4:total -/
abbrev s_part_of : Stmt := topS 42
theorem sc_part_of : FnScope ["sequence", "start", "length", "runs", "total"] ["sequence", "start", "length"] (defScope s_part_of) := ⟨rfl, rfl, rfl, by decide +kernel, rfl, by decide +kernel, by decide +kernel⟩
def sp_part_of : Sp := fun vs H Q _ => ∃ (a : V) (rs : List Run) (s l : Int), vs = [a, .int s, .int l] ∧ RunsG H a rs ∧ SeqOk rs ∧ 0 ≤ s ∧ 0 ≤ l ∧ s + l ≤ lenR rs ∧ ∀ H' p, Same H H' → H p = none → Runs H' p (cutR s (s + l) 0 rs) → Q (.ref p) H'
theorem ok_part_of (D : Df K mg "part_of" s_part_of) (T : Tx mg) (G_checked_runs : Has P w K mg base 5 "checked_runs" ["sequence"] sp_checked_runs) (G_length_of : Has P w K mg base 1 "length_of" ["runs"] sp_length_of) (G_is_within : Has P w K mg base 2 "is_within" ["value", "low", "high"] sp_is_within) (G_cut : Has P w K mg base 1 "cut" ["runs", "start", "length"] sp_cut) :
    Has P w K mg base 6 "part_of" ["sequence", "start", "length"] sp_part_of := by
  refine has_of D sc_part_of (fun _ _ _ _ _ _ us hl => match us, hl with | [_, _, _], _ => rfl) (fun vs H Q E h => ?_) (fun f cdv A outer s₀ H vs Q E hr h => ?_)
  · obtain ⟨a, rs, s, l, rfl, _⟩ := h
    rfl
  · obtain ⟨a, rs, s, l, rfl, hR, ok, h0, h1, h2, q⟩ := h
    refine ⟨_, (pss_cons (ps_set (i := 3) sc_part_of.nd rfl (by first | exact Or.inl rfl | exact Or.inr rfl) (pe_callH G_checked_runs (hr.mono (by omega)) (by rfl) (pa_cons (pv 0) pa_nil)))
    (pss_cons (ps_set (i := 4) sc_part_of.nd rfl (by first | exact Or.inl rfl | exact Or.inr rfl) (pe_callH G_length_of (hr.mono (by omega)) (by rfl) (pa_cons (pv 3) pa_nil)))
    (pss_cons (ps_if (pt_not (pt_val (pe_callH G_is_within (hr.mono (by omega)) (by rfl) (pa_cons (pv 1) (pa_cons pe_int (pa_cons (pv 4) pa_nil)))))) (pss_one ps_never) pss_nil)
    (pss_cons (ps_if (pt_not (pt_val (pe_callH G_is_within (hr.mono (by omega)) (by rfl) (pa_cons (pv 2) (pa_cons pe_int (pa_cons (pe_op op_sub (pv 4) (pv 1)) pa_nil)))))) (pss_one ps_never) pss_nil)
    (pss_one (ps_ret (pe_callH G_cut (hr.mono (by omega)) (by rfl) (pa_cons (pv 3) (pa_cons (pv 1) (pa_cons (pv 2) pa_nil)))))))))), ?_⟩
    refine ⟨_, rfl, a, rs, rfl, hR, ok, fun H1 p s1 np hp => ?_⟩
    have l4 : rs.length ≤ 1000 := by have := ok.1; omega
    refine ⟨_, rfl, p, rs, rfl, hp, l4, fun H2 s2 => ?_⟩
    refine ⟨_, rfl, _, rfl, s, 0, _, rfl, _, rfl, iteN ?_ ?_⟩
    · rw [decide_eq_true (by omega)]
      rfl
    refine ⟨_, rfl, _, rfl, _, rfl, _, _, rfl, rfl, l, 0, _, rfl, _, rfl, iteN ?_ ?_⟩
    · rw [decide_eq_true (by omega)]
      rfl
    exact ⟨_, rfl, _, rfl, _, rfl, p, rs, s, l, rfl, hp.same s2, l4, fun H3 p3 s3 n3 h3 => q H3 p3 (s1.trans (s2.trans s3)) ((s1.trans s2).free n3) h3⟩
/-! check_position: slots 0:runs 1:position -/
abbrev s_check_position : Stmt := topS 35
theorem sc_check_position : FnScope ["runs", "position"] ["runs", "position"] (defScope s_check_position) := ⟨rfl, rfl, rfl, by decide +kernel, rfl, by decide +kernel, by decide +kernel⟩
def sp_check_position : Sp := fun vs H Q _ => ∃ (a : Addr) (rs : List Run) (m : Int), vs = [.ref a, .int m] ∧ Runs H a rs ∧ rs.length ≤ 1000 ∧ 0 ≤ m ∧ m < lenR rs ∧ ∀ H', Same H H' → Q .non H'
theorem ok_check_position (D : Df K mg "check_position" s_check_position) (G_is_within : Has P w K mg base 2 "is_within" ["value", "low", "high"] sp_is_within) (G_length_of : Has P w K mg base 1 "length_of" ["runs"] sp_length_of) : Has P w K mg base 3 "check_position" ["runs", "position"] sp_check_position := by
  refine has_of D sc_check_position (fun _ _ _ _ _ _ us hl => match us, hl with | [_, _], _ => rfl) (fun vs H Q E h => ?_) (fun f cdv A outer s₀ H vs Q E hr h => ?_)
  · obtain ⟨a, rs, _, rfl, _⟩ := h
    rfl
  · obtain ⟨a, rs, m, rfl, hR, l4, h0, h1, q⟩ := h
    refine ⟨_, (pss_one (ps_if (pt_not (pt_val (pe_callH G_is_within (hr.mono (by omega)) (by rfl) (pa_cons (pv 1) (pa_cons pe_int (pa_cons (pe_op op_sub (pe_callH G_length_of (hr.mono (by omega)) (by rfl) (pa_cons (pv 0) pa_nil)) pe_int) pa_nil)))))) (pss_one ps_never) pss_nil)), ?_⟩
    refine ⟨_, rfl, _, rfl, a, rs, rfl, hR, l4, fun H2 s2 => ⟨_, _, rfl, rfl, m, 0, _, rfl, _, rfl, iteN ?_ (q H2 s2)⟩⟩
    rw [decide_eq_true (by omega)]
    rfl
end
end UP

set_option Elab.async false
set_option linter.all false
set_option maxRecDepth 100000
set_option maxHeartbeats 4000000
namespace UP
open PySem PySem.Spec PyProof.Rows L2
def DfD (K : PySem.W.Frag) (mg : Str → Option Value) (x : Str) (st : Stmt) (dvs : List V) : Prop := ∃ f fd, mg x = some (.ref f) ∧ FunD K x x (defArgs st) (defBody st) (defScope st) dvs [] f fd
/-- a def whose last parameter, kw, has the default None -/
def HasD (P : Program) (w : World) (K : PySem.W.Frag) (mg : Str → Option Value) (base : Heap) (k : Nat) (x : Str) (ps : List Str) (n : Nat) (kw : Str) (sp : Sp) : Prop :=
  ∃ f fd, mg x = some (.ref f) ∧ PySem.W.keepIn K (.ref f) = true ∧ Binds K fd ps [] ∧ (∃ ds, Vals [.non] ds ∧ Binds K fd ps ds) ∧ KBn K fd ps n [kw] (fun us ws => us ++ ws) (fun vs zs => vs ++ zs) ∧ FnOk P w K mg base CX0 k f fd ps sp
section
variable {P : Program} {w : World} {K : PySem.W.Frag} {mg : Str → Option Value} {base : Heap}
theorem HasD.has {k n : Nat} {x kw : Str} {ps : List Str} {sp : Sp} (h : HasD P w K mg base k x ps n kw sp) : Has P w K mg base k x ps sp := by
  obtain ⟨f, fd, g, kp, b, _, _, F⟩ := h
  exact ⟨f, fd, g, kp, b, F⟩
theorem has_ofD {x kw : Str} {st : Stmt} {ps N : List Str} {k n : Nat} {sp : Sp} (D : DfD K mg x st [.non]) (S : FnScope N ps (defScope st)) (hpn : ps.length = n + 1)
    (hb : ∀ (T : Addr) (kV doc pm : Value) (an : Option Addr) (cdv ct : Value) (us its : List Value), us.length = n + 1 → its.length = 1 →
      ∃ k, bindArgs (PySem.W.fnOf x x (defArgs st) (defBody st) (defScope st) (.ref T) kV doc pm an cdv ct) ⟨us, []⟩ = seqItems? (.ref T) >>= k ∧ k (some its.toArray) = pure (ps.zip us))
    (hb1 : ∀ (T : Addr) (kV doc pm : Value) (an : Option Addr) (cdv ct : Value) (us its : List Value), us.length = n → its.length = 1 →
      ∃ k, bindArgs (PySem.W.fnOf x x (defArgs st) (defBody st) (defScope st) (.ref T) kV doc pm an cdv ct) ⟨us, []⟩ = seqItems? (.ref T) >>= k ∧ k (some its.toArray) = pure (ps.zip (us ++ its)))
    (hb2 : ∀ (T : Addr) (kV doc pm : Value) (an : Option Addr) (cdv ct : Value) (us its : List Value) (v : Value), us.length = n → its.length = 1 →
      ∃ k, bindArgs (PySem.W.fnOf x x (defArgs st) (defBody st) (defScope st) (.ref T) kV doc pm an cdv ct) ⟨us, [(kw, v)]⟩ = seqItems? (.ref T) >>= k ∧ k (some its.toArray) = pure (ps.zip (us ++ [v])))
    (len : ∀ vs H Q E, sp vs H Q E → vs.length = ps.length)
    (body : ∀ (f : Addr) (cdv : Value) (A : Around) (outer : List Env) (s : Shared) (H : Hp) (vs : List V) (Q : VK) (E : XK), Room k (A.deeper (envOfC x (defScope st) s.heap.objs.size f cdv)) → sp vs H Q E →
      ∃ t, PSs (cxOf CX0 P w K mg base N x (defScope st) f cdv A outer s H E).nox (defBody st) t ∧ t { nx := fun _ H' => Q .non H', rt := Q } (start N vs) H) :
    HasD P w K mg base (k + 1) x ps n kw sp := by
  obtain ⟨f, fd, g, F⟩ := D
  have B0 : Binds K fd ps [] := by
    obtain ⟨ds, v, b⟩ := F.binds1 (n + 1) 1 (ps := ps) (by intro z; cases z) (by rw [hpn]; rfl) fun T kV doc pm an cdv ct us its h1 h2 => by
      obtain ⟨k, e1, e2⟩ := hb T kV doc pm an cdv ct us its h1 h2
      refine ⟨k, e1, ?_⟩
      have h3 : its.length ≤ 1 := Nat.le_of_eq h2
      rw [e2, List.drop_of_length_le h3, List.append_nil]
    cases v
    exact b
  have B1 : ∃ ds, Vals [V.non] ds ∧ Binds K fd ps ds := by
    obtain ⟨ds, v, b⟩ := F.binds1 n 0 (ps := ps) (by intro z; cases z) (by rw [hpn]; rfl) fun T kV doc pm an cdv ct us its h1 h2 => by
      obtain ⟨k, e1, e2⟩ := hb1 T kV doc pm an cdv ct us its h1 h2
      exact ⟨k, e1, by rw [e2, List.drop_zero]⟩
    exact ⟨ds, v, b⟩
  have B2 : KBn K fd ps n [kw] (fun us ws => us ++ ws) (fun vs zs => vs ++ zs) := by
    refine ⟨fun s us ws X l1 l2 => ?_, fun r1 r2 => r1.append r2⟩
    obtain ⟨oc, od, dV, kV, doc, pm, an, cdv, ct, osl, rfl, lk, hcd, hD, _⟩ := F.ex
    rcases hD with ⟨z, _⟩ | ⟨_, T, o, its, m, rfl, lT, oT, rT⟩
    · cases z
    · match ws, l2 with
      | [v], _ =>
        obtain ⟨k, e1, e2⟩ := hb2 T kV doc pm an cdv ct us its v l1 rT.length.symm
        refine BindsTo.of_looks fun M => ?_
        show PySem.W.Looks M s.heap (bindArgs _ ⟨us, [(kw, v)]⟩) _
        rw [e1]
        exact looks_items X lT oT (.of_pure e2)
  refine ⟨f, fd, g, F.kp, B0, B1, B2, F.ok S len fun cdv A outer s H vs Q E hr h => ?_⟩
  obtain ⟨t, p, q⟩ := body f cdv A outer s H vs Q E hr h
  exact ⟨t, p.nox, q⟩
end
section
variable {X : Cx}
/-- the default taken -/
theorem pe_callDH {k n : Nat} {x kw : Str} {ps : List Str} {sp : Sp} {p pos : Pos} {e : Expr} {es : List Expr} {t : TA} (G : HasD X.prog X.w X.K X.mg X.base k x ps n kw sp) (hr : Room k X.A) (hg : Gl X x) (ha : PA X (e :: es) t)
    (hdb : (x == ("__debug__" : Str)) = false := by decide) (he : starEach (e :: es) X.env = (false, eval e X.env) :: starEach es X.env := by rfl) (hpl : (backTo pos (starEach es X.env)).any (·.1) = false := by rfl) :
    PE X (.Call (.Name x p) (e :: es) [] pos) (tCall sp [.non] E0 t) := by
  obtain ⟨f, fd, g, kp, _, ⟨ds, v, b⟩, _, F⟩ := G
  exact pe_call F hr hg g kp b v pass0 ha hdb he hpl
/-- the last one by its name -/
theorem pe_callNH {k n : Nat} {x kw : Str} {ps : List Str} {sp : Sp} {p pos : Pos} {e : Expr} {es : List Expr} {kws : List Keyword} {t tk : TA} (G : HasD X.prog X.w X.K X.mg X.base k x ps n kw sp) (hr : Room k X.A) (hg : Gl X x) (ha : PA X (e :: es) t) (hk : PK X kws tk)
    (h1 : (backToKw pos (keywordEach kws X.env)).all (·.1.isSome) = true := by rfl) (h2 : (backToKw pos (keywordEach kws X.env)).filterMap (·.1) = [kw] := by rfl) (hdb : (x == ("__debug__" : Str)) = false := by decide)
    (he : starEach (e :: es) X.env = (false, eval e X.env) :: starEach es X.env := by rfl) (hpl : ((backTo pos (starEach (e :: es) X.env)).any (·.1) || (backToKw pos (keywordEach kws X.env)).any (·.1.isNone)) = false := by rfl) :
    PE X (.Call (.Name x p) (e :: es) kws pos) (tCallN n 1 sp (fun vs zs => vs ++ zs) E0 t tk) := by
  obtain ⟨f, fd, g, kp, _, _, b, F⟩ := G
  exact pe_callN F hr hg g kp b pass0 ha hk h1 h2 hdb he hpl
end
section
variable {P : Program} {w : World} {K : PySem.W.Frag} {mg : Str → Option Value} {base : Heap}
theorem SeqOk.pos {rs : List Run} (h : SeqOk rs) : ∀ r ∈ rs, 1 ≤ r.2 := fun r m => (h.2.1 r m).2.1
theorem pieceR_pos {b s e : Int} {r x : Run} (h : x ∈ pieceR b s e r) : 1 ≤ x.2 := by
  unfold pieceR at h
  split at h
  · rename_i z
    simp only [List.mem_singleton] at h
    subst h
    show 1 ≤ sizeR b s e r.2
    omega
  · cases h
theorem cutR_pos {s e : Int} : ∀ {l : List Run} {b : Int}, ∀ x ∈ cutR s e b l, 1 ≤ x.2
  | [], _, x, h => by cases h
  | r :: t, b, x, h => by
    rcases List.mem_append.mp (show x ∈ pieceR b s e r ++ cutR s e (b + r.2) t from h) with h | h
    · exact pieceR_pos h
    · exact cutR_pos x h
end
end UP

set_option Elab.async false
set_option linter.all false
set_option maxRecDepth 100000
set_option maxHeartbeats 4000000
namespace UP
open PySem PySem.Spec PyProof.Rows L2
section
variable {P : Program} {w : World} {K : PySem.W.Frag} {mg : Str → Option Value} {base : Heap}
/-! _law_draw: slots 0:spring 1:many 2:mix 3:found -/
abbrev s_law_draw : Stmt := topS 48
theorem sc_law_draw : FnScope ["spring", "many", "mix", "found"] ["spring", "many"] (defScope s_law_draw) := ⟨rfl, rfl, rfl, by decide +kernel, rfl, by decide +kernel, by decide +kernel⟩
def sp_law_draw : Sp := fun vs H Q _ => ∃ (sp : Addr) (m : Int), vs = [.ref sp, .int m] ∧ Spr H sp ∧ 1 ≤ m ∧ m.natAbs < 2 ^ 8000 ∧ ∀ H' r, But sp H H' → Spr H' sp → 0 ≤ r → r < m → Q (.int r) H'
theorem at30 {α : Type} {x y z : α} : atI [x, y, z] 0 = some x := rfl
theorem at31 {α : Type} {x y z : α} : atI [x, y, z] 1 = some y := rfl
theorem at32 {α : Type} {x y z : α} : atI [x, y, z] 2 = some z := rfl
theorem fdiv_le {d m : Int} (h0 : 0 ≤ d) (h1 : 1 ≤ m) : 0 ≤ d / m ∧ d / m ≤ d := by
  refine ⟨Int.ediv_nonneg h0 (by omega), ?_⟩
  have h := Int.ediv_le_self m h0
  exact h
theorem ok_law_draw (D : Df K mg "_law_draw" s_law_draw) (T : Tx mg) : Has P w K mg base 1 "_law_draw" ["spring", "many"] sp_law_draw := by
  refine has_of D sc_law_draw (fun _ _ _ _ _ _ us hl => match us, hl with | [_, _], _ => rfl) (fun vs H Q E h => ?_) (fun f cdv A outer s₀ H vs Q E hr h => ?_)
  · obtain ⟨a, rs, rfl, _⟩ := h
    rfl
  · obtain ⟨sp, m, rfl, ⟨d, s, c, hs, d0, d1, s0, s1⟩, m1, m2, q⟩ := h
    refine ⟨_, (pss_cons (ps_if (pt_cmpR op_gt (pe_ix ix_list (pv 0) pe_int (fun _ _ => rfl)) pe_int (nomark _)) (pss_cons (ps_set (i := 3) sc_law_draw.nd rfl (by first | exact Or.inl rfl | exact Or.inr rfl) (pe_op op_mod (pe_ix ix_list (pv 0) pe_int (fun _ _ => rfl)) (pv 1)))
    (pss_cons (ps_asg (pe_op op_fdivW (pe_ix ix_list (pv 0) pe_int (fun _ _ => rfl)) (pv 1)) (pg_sub (pv 0) pe_int set_list))
    (pss_one (ps_ret (pv 3))))) pss_nil)
    (pss_cons (ps_asg (pe_op op_add (pe_ix ix_list (pv 0) pe_int (fun _ _ => rfl)) pe_int) (pg_sub (pv 0) pe_int set_list))
    (pss_cons (ps_set (i := 2) sc_law_draw.nd rfl (by first | exact Or.inl rfl | exact Or.inr rfl) (pe_op op_mod (pe_op op_mul (pe_ix ix_list (pv 0) pe_int (fun _ _ => rfl)) (pe_ix ix_list (pv 0) pe_int (fun _ _ => rfl))) pe_int))
    (pss_cons (ps_asg (pe_op op_mod (pe_op op_add (pe_op op_add (pv 2) (pe_op op_mul (pe_op op_mul pe_int (pe_ix ix_list (pv 0) pe_int (fun _ _ => rfl))) (pe_ix ix_list (pv 0) pe_int (fun _ _ => rfl)))) pe_int) pe_int) (pg_sub (pv 0) pe_int set_list))
    (pss_one (ps_ret (pe_op op_mod (pe_op op_fdiv (pe_ix ix_list (pv 0) pe_int (fun _ _ => rfl)) pe_int) (pv 1)))))))), ?_⟩
    refine ⟨_, rfl, sp, _, 0, _, rfl, rfl, .of hs, at30, _, _, rfl, rfl, _, rfl, ?_⟩
    by_cases e : 0 < d
    · refine iteP (decide_eq_true e) ?_
      refine ⟨_, rfl, sp, _, 0, _, rfl, rfl, .of hs, at30, _, rfl, _, _, rfl, rfl, (by omega), ?_⟩
      refine ⟨_, rfl, sp, _, 0, _, rfl, rfl, .of hs, at30, _, rfl, _, _, rfl, rfl, wide_div (by omega) m2 (by decide) (by decide), ?_⟩
      refine ⟨_, rfl, sp, _, 0, 0, rfl, rfl, hs, rfl, _, rfl, q _ _ but_upd ⟨d / m, s, c, upd_same, ?_, ?_, s0, s1⟩ (Int.emod_nonneg _ (by omega)) (Int.emod_lt_of_pos _ (by omega))⟩
      · exact (fdiv_le d0 m1).1
      · have := fdiv_le d0 m1
        exact Nat.lt_of_le_of_lt (by omega) d1
    · refine iteN (decide_eq_false e) ?_
      refine ⟨_, rfl, sp, _, 2, _, rfl, rfl, .of hs, at32, _, _, rfl, rfl, ?_⟩
      refine ⟨_, rfl, sp, _, 2, 2, rfl, rfl, hs, rfl, ?_⟩
      have h2 : (upd H sp (.lst [.int d, .int s, .int (c + 1)])) sp = some (.lst [.int d, .int s, .int (c + 1)]) := upd_same
      refine ⟨_, rfl, sp, _, 1, _, rfl, rfl, .of h2, at31, _, rfl, sp, _, 1, _, rfl, rfl, .of h2, at31, _, _, rfl, rfl, .inl ⟨by omega, by omega⟩, _, _, rfl, rfl, (by show (0 : Int) < 2305843009213693951; decide), ?_⟩
      refine ⟨_, rfl, _, rfl, sp, _, 2, _, rfl, rfl, .of h2, at32, _, _, rfl, rfl, .inl ⟨by decide, by decide⟩, _, rfl, sp, _, 1, _, rfl, rfl, .of h2, at31, _, _, rfl, rfl, .inr ⟨by omega, by omega⟩, _, _, rfl, rfl, _, _, rfl, rfl, _, _, rfl, rfl, (by show (0 : Int) < 2305843009213693951; decide), ?_⟩
      refine ⟨_, rfl, sp, _, 1, 1, rfl, rfl, h2, rfl, ?_⟩
      have h3 : ∀ z : Int, (upd (upd H sp (.lst [.int d, .int s, .int (c + 1)])) sp (.lst [.int d, .int z, .int (c + 1)])) sp = some (.lst [.int d, .int z, .int (c + 1)]) := fun z => upd_same
      refine ⟨_, rfl, sp, _, 1, _, rfl, rfl, .of (h3 _), at31, _, _, rfl, rfl, ⟨by decide, by decide⟩, _, rfl, _, _, rfl, rfl, (by omega), ?_⟩
      refine q _ _ (but_upd.trans but_upd) ⟨d, _, _, h3 _, d0, d1, Int.emod_nonneg _ (by decide), Int.emod_lt_of_pos _ (by decide)⟩ (Int.emod_nonneg _ (by omega)) (Int.emod_lt_of_pos _ (by omega))
end
end UP

set_option Elab.async false
set_option linter.all false
set_option maxRecDepth 100000
set_option maxHeartbeats 4000000
namespace UP
open PySem PySem.Spec PyProof.Rows L2
/-! ### data -/
def dRun (r : Run) : PyData := .tuple [.str r.1, .int r.2]
theorem dp_run {K : PySem.W.Frag} {H : Hp} {v : V} {r : Run} (h : RunV H v r) : Dp K H v (dRun r) := by
  obtain ⟨t, rfl, h⟩ := h
  exact .tup (.of h) (.cons (.str _) (.cons (.int _) .nil))
theorem dp_all {K : PySem.W.Frag} {H : Hp} : ∀ {xs : List V} {rs : List Run}, Paired (RunV H) xs rs → DpAll K H xs (rs.map dRun)
  | _, _, .nil => .nil
  | _, _, .cons h t => .cons (dp_run h) (dp_all t)
theorem KindOk.str {s : Str} (h : KindOk s) : PyData.strOk s = true := by
  unfold PyData.strOk
  rw [Array.all_eq_true']
  intro c hc
  have := h.2.2 c (by simpa using hc)
  exact decide_eq_true (by omega)
theorem can_run {r : Run} (h : KindOk r.1) : (dRun r).canLay0 = true := by
  simp [dRun, PyData.canLay0, PyData.canLayAll0, h.str]
theorem can_runs : ∀ {rs : List Run}, (∀ r ∈ rs, KindOk r.1) → PyData.canLayAll0 (rs.map dRun) = true
  | [], _ => by simp [PyData.canLayAll0]
  | r :: t, h => by
    rw [List.map_cons, PyData.canLayAll0, can_run (h r (List.mem_cons_self ..)), can_runs fun x hx => h x (List.mem_cons_of_mem _ hx)]
    rfl
theorem depth_run (r : Run) : (dRun r).depth ≤ 2 := by
  simp [dRun, PyData.depth, PyData.depthAll]
theorem depth_runs : ∀ (rs : List Run), PyData.depthAll (rs.map dRun) ≤ 2
  | [] => by simp [PyData.depthAll]
  | r :: t => by
    rw [List.map_cons, PyData.depthAll]
    exact Nat.max_le.mpr ⟨depth_run r, depth_runs t⟩
theorem shaped_runs {rs : List Run} (h : ∀ r ∈ rs, KindOk r.1) : SeqAt.shaped (.list (rs.map dRun)) = true := by
  unfold SeqAt.shaped
  rw [PyData.canLay0, can_runs h, PyData.depth]
  have := depth_runs rs
  exact decide_eq_true (by omega)
theorem shaped_run {r : Run} (h : KindOk r.1) : SeqAt.shaped (dRun r) = true := by
  unfold SeqAt.shaped
  rw [can_run h]
  have := depth_run r
  exact decide_eq_true (by omega)
theorem shaped_nil : SeqAt.shaped (.list []) = true := by decide
theorem eqv_nil (rs : List Run) : PyData.eqv (.list (rs.map dRun)) (.list []) = rs.isEmpty := by
  cases rs with
  | nil => simp [PyData.eqv, PyData.eqvAll]
  | cons r t => simp [PyData.eqv, PyData.eqvAll]
theorem sb {sp : Addr} {H H' : Hp} (h : Same H H') : But sp H H' := fun b o _ e => h b o e
theorem But.free {sp : Addr} {H H' : Hp} (b : But sp H H') (z : Spr H' sp) {p : Addr} (h : H' p = none) : H p = none := by
  by_cases e : p = sp
  · subst e
    obtain ⟨_, _, _, h1, _⟩ := z
    rw [h1] at h
    cases h
  · cases q : H p with
    | none => rfl
    | some o =>
      rw [b p o e q] at h
      cases h
theorem Spr.ne {sp p : Addr} {H : Hp} (z : Spr H sp) (h : H p = none) : p ≠ sp := by
  obtain ⟨_, _, _, h1, _⟩ := z
  exact fun e => by rw [e, h1] at h; cases h
instance (s : Str) : Decidable (KindOk s) := by
  unfold KindOk
  infer_instance
section
variable {P : Program} {w : World} {K : PySem.W.Frag} {mg : Str → Option Value} {base : Heap}
/-! _law_spring: slots 0:script 1:digits 2:seed 3:cell -/
abbrev s_law_spring : Stmt := topS 47
theorem sc_law_spring : FnScope ["script", "digits", "seed", "cell"] ["script"] (defScope s_law_spring) := ⟨rfl, rfl, rfl, by decide +kernel, rfl, by decide +kernel, by decide +kernel⟩
def sp_law_spring (K : PySem.W.Frag) : Sp := fun vs H Q _ => ∃ (a : Addr) (ns : List Int), vs = [.ref a] ∧ SqL K H a (ns.map V.int) ∧ ns.length ≤ 63 ∧ ∀ H' p, Same H H' → H p = none → Spr H' p → Q (.ref p) H'
theorem pow60 : (10 : Int) ^ ((60 : Int).toNat) = 1000000000000000000000000000000000000000000000000000000000000 := by decide +kernel
theorem pow200 (i : Nat) : 2 ^ (200 * (i + 1)) = 2 ^ (200 * i) * 1606938044258990275541962092341162602522202993782792835301376 := by
  rw [Nat.mul_add, Nat.pow_add]
theorem spring_step {d x : Int} {i : Nat} (h0 : 0 ≤ d) (h1 : d.natAbs < 2 ^ (200 * i)) : 0 ≤ d * (10 : Int) ^ ((60 : Int).toNat) + x % (10 : Int) ^ ((60 : Int).toNat) ∧ (d * (10 : Int) ^ ((60 : Int).toNat) + x % (10 : Int) ^ ((60 : Int).toNat)).natAbs < 2 ^ (200 * (i + 1)) := by
  rw [pow60, pow200]
  generalize 2 ^ (200 * i) = B at h1 ⊢
  have m0 := Int.emod_nonneg x (show (1000000000000000000000000000000000000000000000000000000000000 : Int) ≠ 0 by decide)
  have m1 := Int.emod_lt_of_pos x (show (0 : Int) < 1000000000000000000000000000000000000000000000000000000000000 by decide)
  generalize x % 1000000000000000000000000000000000000000000000000000000000000 = y at m0 m1 ⊢
  omega
theorem ok_law_spring (D : Df K mg "_law_spring" s_law_spring) (T : Tx mg) : Has P w K mg base 1 "_law_spring" ["script"] (sp_law_spring K) := by
  refine has_of D sc_law_spring (fun _ _ _ _ _ _ us hl => match us, hl with | [_], _ => rfl) (fun vs H Q E h => ?_) (fun f cdv A outer s₀ H vs Q E hr h => ?_)
  · obtain ⟨a, rs, rfl, _⟩ := h
    rfl
  · obtain ⟨a, ns, rfl, hS, l63, q⟩ := h
    refine ⟨_, (pss_cons (ps_set (i := 1) sc_law_spring.nd rfl (by first | exact Or.inl rfl | exact Or.inr rfl) pe_int)
    (pss_cons (ps_set (i := 2) sc_law_spring.nd rfl (by first | exact Or.inl rfl | exact Or.inr rfl) pe_int)
    (pss_cons (ps_for PassesOwn.never rfl (pi_list (pe_slice sl_list (pv 0) po_none (po_some pe_int))) (pg_name (i := 3) sc_law_spring.nd rfl (by first | exact Or.inl rfl | exact Or.inr rfl))
      (C8.pss_cut (ps_if (pt_cmpR op_ge (pe_callB call_abs (by rfl) T.n_abs (by decide +kernel) (pa_cons (pv 3) pa_nil)) (pe_op op_pow pe_int pe_int) (nomark _)) (pss_one (ps_set (i := 1) sc_law_spring.nd rfl (by first | exact Or.inl rfl | exact Or.inr rfl) (pe_op op_add (pe_op op_mulW (pv 1) (pe_op op_pow pe_int pe_int)) (pe_op op_mod (pe_callB call_abs (by rfl) T.n_abs (by decide +kernel) (pa_cons (pv 3) pa_nil)) (pe_op op_pow pe_int pe_int))))) pss_nil)
    (pss_one (ps_set (i := 2) sc_law_spring.nd rfl (by first | exact Or.inl rfl | exact Or.inr rfl) (pe_op op_mod (pe_op op_add (pe_op op_add (pe_op op_mul (pv 2) pe_int) (pe_op op_mod (pv 3) pe_int)) pe_int) pe_int)))))
    (pss_one (ps_ret (pe_lst (pa_cons (pv 1) (pa_cons (pv 2) (pa_cons pe_int pa_nil))))))))), ?_⟩
    refine ⟨_, rfl, _, rfl, a, _, rfl, hS, fun c nc => ?_⟩
    obtain ⟨ms, em, lm⟩ : ∃ ms : List Int, cutV (ns.map V.int) none (some 63) = ms.map V.int ∧ ms.length ≤ 63 := by
      refine ⟨_, by unfold cutV; rw [← List.map_drop, ← List.map_take], ?_⟩
      rw [List.length_take, List.length_drop]
      omega
    rw [em]
    have sc : Same H (upd H c (.lst (ms.map V.int))) := same_upd nc
    refine ⟨c, rfl, ⟨_, .of upd_same⟩, for_list (K := K) (a := c) (xs := ms.map V.int) (fun i σ H' => ∃ d s y3, σ = [some (.ref a), some (.int d), some (.int s), y3] ∧ H' = upd H c (.lst (ms.map V.int)) ∧ 0 ≤ d ∧ d.natAbs < 2 ^ (200 * i) ∧ 0 ≤ s ∧ s < 2305843009213693951)
      ⟨0, 88651, none, rfl, rfl, by decide, by decide, by decide, by decide⟩ (fun i σ H' _ hP => ?_) (fun i x σ H4 ex hP => ?_) (fun σ H4 hP => ?_)⟩
    · obtain ⟨_, _, _, _, rfl, _⟩ := hP
      exact .of upd_same
    · obtain ⟨d, s, y3, rfl, rfl, d0, d1, s0, s1⟩ := hP
      rw [List.getElem?_map] at ex
      cases e : ms[i]? with
      | none =>
        rw [e] at ex
        cases ex
      | some n =>
        rw [e] at ex
        have ex := Option.some.inj ex
        subst ex
        refine ⟨fun σ' H' => ∃ d', σ' = [some (.ref a), some (.int d'), some (.int s), some (.int n)] ∧ H' = upd H c (.lst (ms.map V.int)) ∧ 0 ≤ d' ∧ d'.natAbs < 2 ^ (200 * (i + 1)), ?_, fun σ' H5 hM => ?_⟩
        · refine ⟨_, rfl, n, rfl, _, _, rfl, rfl, ⟨by decide, by decide, by decide⟩, _, _, rfl, rfl, _, rfl, ite2 (fun _ => ?_) (fun _ => ?_)⟩
          · refine ⟨_, rfl, _, _, rfl, rfl, ⟨by decide, by decide, by decide⟩, _, _, rfl, rfl, wide_mul (a := 200 * i + 1) (b := 200) (Nat.lt_of_lt_of_le d1 (Nat.pow_le_pow_right (by decide) (by omega))) (by rw [pow60]; decide) (by omega) (by decide) ?_, ?_⟩
            · have : i < ms.length := (List.getElem?_eq_some_iff.mp e).1
              omega
            · refine ⟨_, rfl, n, rfl, _, _, rfl, rfl, ⟨by decide, by decide, by decide⟩, _, _, rfl, rfl, (by show (0 : Int) < 10 ^ ((60 : Int).toNat); rw [pow60]; decide), _, _, rfl, rfl, ?_⟩
              exact ⟨_, rfl, rfl, (spring_step d0 d1).1, (spring_step d0 d1).2⟩
          · refine ⟨d, rfl, rfl, d0, Nat.lt_of_lt_of_le d1 (Nat.pow_le_pow_right (by decide) (by omega))⟩
        · obtain ⟨d', rfl, rfl, d0', d1'⟩ := hM
          refine ⟨_, rfl, _, _, rfl, rfl, .inr ⟨by decide, by decide⟩, _, rfl, _, _, rfl, rfl, (by show (0 : Int) < 2305843009213693921; decide), _, _, rfl, rfl, _, _, rfl, rfl, _, _, rfl, rfl, (by show (0 : Int) < 2305843009213693951; decide), ?_⟩
          exact ⟨d', _, _, rfl, rfl, d0', d1', Int.emod_nonneg _ (by decide), Int.emod_lt_of_pos _ (by decide)⟩
    · obtain ⟨d, s, y3, rfl, rfl, d0, d1, s0, s1⟩ := hP
      refine ⟨_, rfl, _, rfl, (by show 3 ≤ sizeLine; decide), fun p np => q _ p (sc.trans (same_upd np)) (sc.free np) ⟨d, s, 0, upd_same, d0, Nat.lt_of_lt_of_le d1 (Nat.pow_le_pow_right (by decide) ?_), s0, s1⟩⟩
      rw [List.length_map]
      omega
/-! _law_state: slots 0:spring 1:longest 2:kind -/
abbrev s_law_state : Stmt := topS 50
theorem sc_law_state : FnScope ["spring", "longest", "kind"] ["spring", "longest"] (defScope s_law_state) := ⟨rfl, rfl, rfl, by decide +kernel, rfl, by decide +kernel, by decide +kernel⟩
def sp_law_state : Sp := fun vs H Q _ => ∃ (sp : Addr) (m : Int), vs = [.ref sp, .int m] ∧ Spr H sp ∧ 1 ≤ m ∧ m.natAbs < 2 ^ 8000 ∧ ∀ H' v st, But sp H H' → Spr H' sp → StV H' v st → StOk st → (∀ r, st = some r → r.2 ≤ m) → Q v H'
def nine : List Str := ["a", "b", "c", "ab", "zz", "abcdefgh", "aa", "z", "other"]
theorem nine_ok : ∀ s ∈ nine, KindOk s := by decide +kernel
theorem atI_of {α : Type} {l : List α} {i : Int} {x : α} (h0 : 0 ≤ i) (h : l[i.toNat]? = some x) : atI l i = some x := by
  have e : i = (i.toNat : Int) := by omega
  rw [e]
  exact atI_nat h
theorem ok_law_state (D : Df K mg "_law_state" s_law_state) (T : Tx mg) (G_law_draw : Has P w K mg base 1 "_law_draw" ["spring", "many"] sp_law_draw) : Has P w K mg base 2 "_law_state" ["spring", "longest"] sp_law_state := by
  refine has_of D sc_law_state (fun _ _ _ _ _ _ us hl => match us, hl with | [_, _], _ => rfl) (fun vs H Q E h => ?_) (fun f cdv A outer s₀ H vs Q E hr h => ?_)
  · obtain ⟨a, rs, rfl, _⟩ := h
    rfl
  · obtain ⟨sp, m, rfl, hz, m1, m2, q⟩ := h
    refine ⟨_, (pss_cons (ps_set (i := 2) sc_law_state.nd rfl (by first | exact Or.inl rfl | exact Or.inr rfl) (pe_ix ix_list (pe_lst (pa_cons pe_str (pa_cons pe_str (pa_cons pe_str (pa_cons pe_str (pa_cons pe_str (pa_cons pe_str (pa_cons pe_str (pa_cons pe_str (pa_cons pe_str pa_nil)))))))))) (pe_callH G_law_draw (hr.mono (by omega)) (by rfl) (pa_cons (pv 0) (pa_cons pe_int pa_nil))) (fun _ _ => rfl)))
    (pss_one (ps_ret (pe_ifExp (pt_cmpR op_eq (pe_callH G_law_draw (hr.mono (by omega)) (by rfl) (pa_cons (pv 0) (pa_cons pe_int pa_nil))) pe_int (nomark _)) pe_non (pe_tup (pa_cons (pv 2) (pa_cons (pe_op op_add pe_int (pe_callH G_law_draw (hr.mono (by omega)) (by rfl) (pa_cons (pv 0) (pa_cons (pv 1) pa_nil)))) pa_nil))))))), ?_⟩
    refine ⟨(by show 9 ≤ sizeLine; decide), fun l nl => ?_⟩
    have zl : Spr (upd H l (.lst (nine.map V.str))) sp := hz.same (same_upd nl)
    refine ⟨_, rfl, sp, 9, rfl, zl, by decide, by decide, fun H1 r b1 z1 r0 r1 => ?_⟩
    have nl2 : l ≠ sp := Spr.ne hz nl
    have hl : H1 l = some (.lst (nine.map V.str)) := b1 _ _ nl2 upd_same
    have hr9 : r.toNat < nine.length := by
      show r.toNat < 9
      omega
    have ek : (nine.map V.str)[r.toNat]? = some (.str nine[r.toNat]) := by
      rw [List.getElem?_map, List.getElem?_eq_getElem hr9]
      rfl
    have kk : KindOk nine[r.toNat] := nine_ok _ (List.getElem_mem hr9)
    generalize nine[r.toNat] = kd at ek kk
    refine ⟨l, _, r, _, rfl, rfl, .of hl, atI_of r0 ek, ?_⟩
    have bA : But sp H H1 := (sb (same_upd nl)).trans b1
    refine ⟨_, rfl, sp, 3, rfl, z1, by decide, by decide, fun H2 r2 b2 z2 r20 r21 => ⟨rfl, _, rfl, ?_⟩⟩
    by_cases e : r2 = 0
    · subst e
      exact iteP (decide_eq_true rfl) (q H2 _ none (bA.trans b2) z2 rfl (fun r h => by cases h) (fun r h => by cases h))
    · refine iteN (decide_eq_false fun z => e (V.int.inj z)) ?_
      refine ⟨_, rfl, _, rfl, _, rfl, sp, m, rfl, z2, m1, m2, fun H3 r3 b3 z3 r30 r31 => ⟨_, _, rfl, rfl, (by show 2 ≤ sizeLine; decide), fun t nt => ?_⟩⟩
      refine q _ _ (some (kd, 1 + r3)) ((bA.trans (b2.trans b3)).trans (sb (same_upd nt))) (z3.same (same_upd nt)) ⟨t, rfl, upd_same⟩ (fun r h => ?_) (fun r h => ?_)
      · cases h
        exact ⟨kk, by show 1 ≤ 1 + r3; omega⟩
      · cases h
        show 1 + r3 ≤ m
        omega
end
end UP

set_option Elab.async false
set_option linter.all false
set_option maxRecDepth 100000
set_option maxHeartbeats 4000000
namespace UP
open PySem PySem.Spec PyProof.Rows L2
theorem pe_bmK {X : Cx} {K : PySem.W.Frag} {e : Expr} {c : String} {r : V → List V → Hp → VK → Prop} {to : TE} {t : TA} (h : X.K = K) (p : PE X e (tBM X.K c r to t)) : PE X e (tBM K c r to t) := h ▸ p
theorem if_by {c : TT} {t u : TS} {D : Ends} {σ : L2.St} {H : Hp} (R : Bool → Hp → Prop) (h : ∀ Q' : Bool → Hp → Prop, (∀ b H', R b H' → Q' b H') → c σ H Q') (ht : ∀ H', R true H' → t D σ H') (hu : ∀ H', R false H' → u D σ H') : tIfS c t u D σ H := by
  refine h _ fun b H' r => ?_
  cases b with
  | true => exact iteT (ht H' r)
  | false => exact iteF (hu H' r)
theorem erase_map {α β : Type} (f : α → β) : ∀ (l : List α) (i : Nat), (l.map f).eraseIdx i = (l.eraseIdx i).map f
  | [], _ => rfl
  | x :: t, 0 => rfl
  | x :: t, i + 1 => by
    simp only [List.map_cons, List.eraseIdx_cons_succ]
    rw [erase_map f t i]
def eight : List Str := ["a", "b", "c", "ab", "zz", "abcdefgh", "aa", "z"]
theorem eight_ok : ∀ s ∈ eight, KindOk s := by decide +kernel
theorem alt_snoc {l : List Run} {x : Run} (h : Alt l) (k : ∀ y, l[l.length - 1]? = some y → y.1 ≠ x.1) : Alt (l ++ [x]) := by
  intro i a b ha hb
  by_cases h1 : i + 1 < l.length
  · rw [List.getElem?_append_left (by omega)] at ha
    rw [List.getElem?_append_left h1] at hb
    exact h i a b ha hb
  · by_cases h2 : i + 1 = l.length
    · rw [List.getElem?_append_left (by omega)] at ha
      rw [List.getElem?_append_right (by omega), h2, Nat.sub_self] at hb
      cases hb
      rw [show i = l.length - 1 by omega] at ha
      exact k a ha
    · rw [List.getElem?_append_right (by omega)] at hb
      rw [List.getElem?_eq_none (by simp; omega)] at hb
      cases hb
theorem pow62 {x : Int} (h0 : 0 ≤ x) (h1 : x ≤ 1000000) : -(2 ^ 62) ≤ x ∧ x < 2 ^ 62 := by omega
theorem wide8 {m : Int} (h0 : 0 ≤ m) (h1 : m ≤ 1000000000000000000000000000000000000000000000000000000000000) : m.natAbs < 2 ^ 8000 :=
  Nat.lt_of_lt_of_le (show m.natAbs < 2 ^ 256 by omega) (Nat.pow_le_pow_right (by decide) (by decide))
section
variable {P : Program} {w : World} {K : PySem.W.Frag} {mg : Str → Option Value} {base : Heap}
/-! _law_sequence: slots 0:spring 1:most 2:longest 3:pool 4:kinds 5:found 6:k 7:kind 8:count -/
abbrev s_law_sequence : Stmt := topS 49
theorem sc_law_sequence : FnScope ["spring", "most", "longest", "pool", "kinds", "found", "k", "kind", "count"] ["spring", "most", "longest"] (defScope s_law_sequence) := ⟨rfl, rfl, rfl, by decide +kernel, rfl, by decide +kernel, by decide +kernel⟩
def sp_law_sequence : Sp := fun vs H Q _ => ∃ (sp : Addr) (m g : Int), vs = [.ref sp, .int m, .int g] ∧ Spr H sp ∧ 0 ≤ m ∧ m ≤ 400 ∧ 1 ≤ g ∧ g ≤ 1000000000000000000000000000000 ∧ ∀ H' p rs, But sp H H' → Spr H' sp → H p = none → Runs H' p rs → SeqOk rs → (rs.length : Int) ≤ m → (∀ r ∈ rs, r.2 ≤ g) → Q (.ref p) H'
theorem ok_law_sequence (D : Df K mg "_law_sequence" s_law_sequence) (T : Tx mg) (G_law_draw : Has P w K mg base 1 "_law_draw" ["spring", "many"] sp_law_draw) : Has P w K mg base 2 "_law_sequence" ["spring", "most", "longest"] sp_law_sequence := by
  refine has_of D sc_law_sequence (fun _ _ _ _ _ _ us hl => match us, hl with | [_, _, _], _ => rfl) (fun vs H Q E h => ?_) (fun f cdv A outer s₀ H vs Q E hr h => ?_)
  · obtain ⟨_, _, _, rfl, _⟩ := h
    rfl
  · obtain ⟨sp, m, g, rfl, hz, m0, m4, g1, g2, q⟩ := h
    refine ⟨_, (pss_cons (ps_set (i := 3) sc_law_sequence.nd rfl (by first | exact Or.inl rfl | exact Or.inr rfl) (pe_lst (pa_cons pe_str (pa_cons pe_str (pa_cons pe_str (pa_cons pe_str (pa_cons pe_str (pa_cons pe_str (pa_cons pe_str (pa_cons pe_str pa_nil))))))))))
    (pss_cons (ps_setLc (i := 4) (own := [("k", 6)]) rfl sc_law_sequence.nd rfl rfl (sw_true rfl rfl rfl (by decide +kernel)) (pi_range1 (by rfl) T.n_range (pa_cons (pe_op op_add pe_int (pe_callH G_law_draw (hr.mono (by omega)) (by rfl) (pa_cons (pv 0) (pa_cons pe_int pa_nil)))) pa_nil)) (blkOk_by (N := ["spring", "most", "longest", "pool", "kinds", "found", "k", "kind", "count"]) (sc := defScope s_law_sequence) (by decide +kernel)) (fun _ _ _ _ _ => (pg_name (i := 6) sc_law_sequence.nd rfl (by first | exact Or.inl rfl | exact Or.inr rfl))) (fun _ _ _ _ _ => pts_nil) (fun _ _ _ _ _ => (pe_bmK (K := K) rfl (pe_bm PySem.F.plainAttrs_list PySem.F.slot_list_pop PySem.F.type_list_pop mt_popAt (pv 3) (pa_cons (pe_callH G_law_draw (hr.mono (by omega)) (by rfl) (pa_cons (pv 0) (pa_cons (pe_callB (call_len_seqK (K := K) rfl) (by rfl) T.n_len (by decide +kernel) (pa_cons (pv 3) pa_nil)) pa_nil))) pa_nil)))))
    (pss_cons (ps_set (i := 5) sc_law_sequence.nd rfl (by first | exact Or.inl rfl | exact Or.inr rfl) (pe_lst pa_nil))
    (pss_cons (ps_for PassesOwn.never rfl (pi_range1 (by rfl) T.n_range (pa_cons (pe_callH G_law_draw (hr.mono (by omega)) (by rfl) (pa_cons (pv 0) (pa_cons (pe_op op_add (pv 1) pe_int) pa_nil))) pa_nil)) (pg_name (i := 6) sc_law_sequence.nd rfl (by first | exact Or.inl rfl | exact Or.inr rfl))
      (pss_cons (ps_par (i := 7) (j := 8) (by rfl) sc_law_sequence.nd rfl rfl (by decide) rfl rfl (pa_cons (pe_ix ix_list (pv 4) (pe_callH G_law_draw (hr.mono (by omega)) (by rfl) (pa_cons (pv 0) (pa_cons (pe_callB call_len_seq (by rfl) T.n_len (by decide +kernel) (pa_cons (pv 4) pa_nil)) pa_nil))) (fun _ _ => rfl)) (pa_cons (pe_op op_add pe_int (pe_callH G_law_draw (hr.mono (by omega)) (by rfl) (pa_cons (pv 0) (pa_cons (pv 2) pa_nil)))) pa_nil)) (by rfl))
    (pss_one (ps_if (PW.pt (pw_or (pt_cmpR (op_eqD hr.units) (pv 5) (pe_lst pa_nil) (nomark _)) (pw_or1 (pt_cmpR op_ne (pe_ix ix_tup (pe_ix ix_list (pv 5) (pe_un un_neg pe_int) (fun _ _ => rfl)) pe_int (fun _ _ => rfl)) (pv 7) (nomark _))))) (pss_one (ps_expr (pe_bm PySem.F.plainAttrs_list PySem.F.slot_list_append PySem.F.type_list_append mt_append (pv 5) (pa_cons (pe_tup (pa_cons (pv 7) (pa_cons (pv 8) pa_nil))) pa_nil)))) pss_nil))))
    (pss_one (ps_ret (pv 5))))))), ?_⟩
    refine ⟨(by show 8 ≤ sizeLine; decide), fun pl npl => ?_⟩
    have z1 : Spr (upd H pl (.lst (eight.map V.str))) sp := hz.same (same_upd npl)
    have n1 : pl ≠ sp := Spr.ne hz npl
    refine ⟨_, rfl, sp, 5, rfl, z1, by decide, by decide, fun H2 r2 b2 z2 r20 r21 => ?_⟩
    have hp2 : H2 pl = some (.lst (eight.map V.str)) := b2 _ _ n1 upd_same
    have B2 : But sp H H2 := (sb (same_upd npl)).trans b2
    refine ⟨_, _, rfl, rfl, 1 + r2, rfl, by omega, by omega, fun L nL => ?_⟩
    have nLs : L ≠ sp := Spr.ne z2 nL
    have nLp : L ≠ pl := fun e => by rw [e, hp2] at nL; cases nL
    have nLH : H L = none := B2.free z2 nL
    refine lc_range (lo := 0) (n := (1 + r2).toNat) (fun i H' => ∃ ps ks : List Str, But sp H H' ∧ Spr H' sp ∧ H' pl = some (.lst (ps.map V.str)) ∧ ps.length + i = 8 ∧ (∀ s ∈ ps, KindOk s) ∧ H' L = some (.lst (ks.map V.str)) ∧ ks.length = i ∧ (∀ s ∈ ks, KindOk s))
      ⟨eight, [], B2.trans (sb (same_upd nL)), z2.same (same_upd nL), by rw [upd_ne nLp.symm]; exact hp2, rfl, eight_ok, upd_same, rfl, fun s h => by cases h⟩ (fun i H3 hi hP => ?_) (fun H3 hP => ?_)
    · obtain ⟨ps, ks, b3, z3, hpl, lp, okp, hL, lk, okk⟩ := hP
      refine ⟨rfl, yesT ⟨_, rfl, .inl ⟨rfl, _, SqL.of hpl⟩, _, rfl, _, rfl, pl, _, rfl, .inl (.of hpl), sp, _, rfl, z3, ?_, ?_, fun H4 r4 b4 z4 r40 r41 => ?_⟩⟩
      · rw [List.length_map]
        omega
      · rw [List.length_map]
        exact wide8 (by omega) (by omega)
      · rw [List.length_map] at r41
        have lt : r4.toNat < ps.length := by omega
        have h4 : H4 pl = some (.lst (ps.map V.str)) := b4 _ _ n1 hpl
        have hL4 : H4 L = some (.lst (ks.map V.str)) := b4 _ _ nLs hL
        have ek : (ps.map V.str)[r4.toNat]? = some (.str ps[r4.toNat]) := by
          rw [List.getElem?_map, List.getElem?_eq_getElem lt]
          rfl
        have ix : seqIndex? r4 (ps.map V.str).length = some r4.toNat := by
          unfold seqIndex?
          rw [List.length_map]
          have e1 : ¬ r4 < 0 := by omega
          simp only [e1, if_false]
          rw [if_pos]
          simp
          omega
        refine ⟨pl, _, r4, r4.toNat, _, rfl, rfl, h4, by omega, by omega, ix, ek, ks.map V.str, ?_, ?_, ps.eraseIdx r4.toNat, ks ++ [ps[r4.toNat]], ?_, ?_, ?_, ?_, ?_, ?_, ?_, ?_⟩
        · rw [upd_ne nLp]
          exact hL4
        · rw [List.length_map]
          exact small (by omega)
        · intro b o nb eb
          have e1 : b ≠ L := ne_of_none eb nLH
          have e2 : b ≠ pl := ne_of_none eb npl
          rw [upd_ne e1, upd_ne e2]
          exact b4 b o nb (b3 b o nb eb)
        · obtain ⟨d, s, c, hs, rest⟩ := z4
          refine ⟨d, s, c, ?_, rest⟩
          rw [upd_ne nLs.symm, upd_ne n1.symm]
          exact hs
        · rw [upd_ne nLp.symm, upd_same, erase_map]
        · rw [List.length_eraseIdx_of_lt lt]
          omega
        · intro s hs
          exact okp s (List.mem_of_mem_eraseIdx hs)
        · rw [upd_same, List.map_append]
          rfl
        · rw [List.length_append, lk]
          rfl
        · intro s hs
          rcases List.mem_append.mp hs with h | h
          · exact okk s h
          · rw [List.mem_singleton.mp h]
            exact okp _ (List.getElem_mem lt)
    · obtain ⟨ps, ks, b3, z3, hpl, lp, okp, hL, lk, okk⟩ := hP
      refine ⟨Nat.zero_le _, fun p np => ?_⟩
      have npH : H p = none := b3.free z3 np
      have nps : p ≠ sp := Spr.ne z3 np
      have npL : p ≠ L := fun e => by rw [e, hL] at np; cases np
      refine ⟨_, rfl, _, rfl, _, _, rfl, rfl, sp, _, rfl, z3.same (same_upd np), (by show 1 ≤ m + 1; omega), (wide8 (by show 0 ≤ m + 1; omega) (by show m + 1 ≤ _; omega)), fun H5 r5 b5 z5 r50 r51 => ?_⟩
      have r51 : r5 < m + 1 := r51
      refine ⟨r5, rfl, by omega, by omega, for_range (lo := 0) (n := r5.toNat) (fun i σ H' => ∃ y6 y7 y8 rs, σ = [some (.ref sp), some (.int m), some (.int g), some (.ref pl), some (.ref L), some (.ref p), y6, y7, y8] ∧ But sp H H' ∧ Spr H' sp ∧ H' L = some (.lst (ks.map V.str)) ∧ Runs H' p rs ∧ rs.length ≤ i ∧ (∀ r ∈ rs, RunOk r ∧ r.2 ≤ g) ∧ Alt rs)
        ⟨none, none, none, [], rfl, (b3.trans (sb (same_upd np))).trans b5, z5, b5 _ _ nLs (same_upd np _ _ hL), ⟨[], b5 _ _ nps upd_same, .nil⟩, Nat.zero_le _, (fun r h => by cases h), (fun i x y h => by simp at h)⟩ (fun i σ H6 hi hP => ?_) (fun σ H6 hP => ?_)⟩
      · obtain ⟨y6, y7, y8, rs, rfl, b6, z6, hL6, hR, lr, okr, alt⟩ := hP
        refine ⟨_, rfl, _, rfl, _, rfl, L, _, rfl, .inl (.of hL6), sp, _, rfl, z6, ?_, ?_, fun H7 r7 b7 z7 r70 r71 => ?_⟩
        · rw [List.length_map]
          omega
        · rw [List.length_map]
          exact wide8 (by omega) (by omega)
        rw [List.length_map] at r71
        have lt : r7.toNat < ks.length := by omega
        have hL7 : H7 L = some (.lst (ks.map V.str)) := b7 _ _ nLs hL6
        have ek : (ks.map V.str)[r7.toNat]? = some (.str ks[r7.toNat]) := by
          rw [List.getElem?_map, List.getElem?_eq_getElem lt]
          rfl
        have kk : KindOk ks[r7.toNat] := okk _ (List.getElem_mem lt)
        generalize ks[r7.toNat] = kd at ek kk
        refine ⟨L, _, r7, _, rfl, rfl, .of hL7, atI_of r70 ek, ?_⟩
        refine ⟨_, rfl, _, rfl, sp, g, rfl, z7, g1, wide8 (by omega) (by omega), fun H8 r8 b8 z8 r80 r81 => ⟨_, _, rfl, rfl, _, _, rfl, ?_⟩⟩
        have B8 := b6.trans (b7.trans b8)
        have hL8 : H8 L = some (.lst (ks.map V.str)) := b8 _ _ nLs hL7
        have hR8 : Runs H8 p rs := (hR.but z6 b7).but z7 b8
        have okR : ∀ r ∈ rs, KindOk r.1 := fun r h => (okr r h).1.1
        clear b7 b8 hL7 hR hL6 b6 z6 z7
        obtain ⟨xs, hx, hpr⟩ := hR8
        have lx : xs.length = rs.length := Paired.len hpr
        dsimp only
        refine if_by (fun b H9 => Same H8 H9 ∧ (b = true → ∀ y, rs[rs.length - 1]? = some y → y.1 ≠ kd)) (fun Q' k => ?_) (fun H9 hq => ?_) (fun H9 hq => ?_)
        · refine ⟨_, rfl, Nat.zero_le _, fun e ne => ?_⟩
          have se : Same H8 (upd H8 e (.lst [])) := same_upd ne
          refine ⟨.list (rs.map dRun), .list [], .lst (.of (se _ _ hx)) (dp_all (prs_same se hpr)), .lst (.of upd_same) .nil, shaped_runs okR, shaped_nil, _, rfl, ?_⟩
          rw [eqv_nil]
          cases hrs : rs with
          | nil => exact iteP rfl (k _ _ ⟨se, fun _ y hy => by rw [hrs] at hy; cases hy⟩)
          | cons r0 t0 =>
            refine iteN rfl ?_
            have hne : rs ≠ [] := by rw [hrs]; intro z; cases z
            have hlt : rs.length - 1 < rs.length := by
              have : 0 < rs.length := by rw [hrs]; exact Nat.succ_pos _
              omega
            obtain ⟨x, ex, hxv⟩ := Paired.at' hpr (List.getElem?_eq_getElem hlt)
            obtain ⟨tt, rfl, htt⟩ := RunV.same se hxv
            have exl : atI xs (-1) = some (.ref tt) := by
              have h1 : xs ≠ [] := fun z => by rw [z] at lx; rw [hrs] at lx; cases lx
              have h2 : xs = xs.dropLast ++ [xs.getLast h1] := (List.dropLast_concat_getLast h1).symm
              have h3 : xs.getLast h1 = .ref tt := by
                have := List.getLast?_eq_getElem? (l := xs)
                rw [lx, ex, List.getLast?_eq_some_getLast h1] at this
                exact Option.some.inj this
              rw [h2, h3]
              exact atI_last _ _
            refine ⟨_, rfl, 1, rfl, p, xs, -1, _, rfl, rfl, .of (se _ _ hx), exl, tt, _, 0, _, rfl, rfl, .of htt, at0, _, rfl, rfl, _, rfl, ?_⟩
            refine k _ _ ⟨se, fun hb y hy => ?_⟩
            rw [List.getElem?_eq_getElem hlt] at hy
            cases hy
            intro z
            rw [z] at hb
            simp at hb
        · obtain ⟨s9, ha⟩ := hq
          refine ⟨_, rfl, .inl ⟨rfl, _, SqL.of (s9 _ _ hx)⟩, _, rfl, _, rfl, (by show 2 ≤ sizeLine; decide), fun n nn => ⟨p, _, _, rfl, rfl, same_upd nn _ _ (s9 _ _ hx), small (by omega), ?_⟩⟩
          have sn := s9.trans (same_upd (o := .tup [.str kd, .int (1 + r8)]) nn)
          refine ⟨_, _, _, rs ++ [(kd, 1 + r8)], rfl, ?_, ?_, ?_, ⟨_, upd_same, Paired.app (prs_grow (sn _ _ hx) (prs_same sn hpr)) (.cons (RunV.grow (sn _ _ hx) ⟨n, rfl, upd_same⟩) .nil)⟩, ?_, ?_, alt_snoc alt (ha rfl)⟩
          · intro b o nb eb
            rw [upd_ne (ne_of_none eb npH)]
            exact sn b o (B8 b o nb eb)
          · obtain ⟨d, s, c, hs, rest⟩ := z8.same sn
            refine ⟨d, s, c, ?_, rest⟩
            rw [upd_ne nps.symm]
            exact hs
          · rw [upd_ne npL.symm]
            exact sn _ _ hL8
          · rw [List.length_append]
            show rs.length + 1 ≤ i + 1
            omega
          · intro r hr
            rcases List.mem_append.mp hr with h | h
            · exact okr r h
            · rw [List.mem_singleton.mp h]
              exact ⟨⟨kk, by show 1 ≤ 1 + r8; omega, by show 1 + r8 ≤ _; omega⟩, by show 1 + r8 ≤ g; omega⟩
        · obtain ⟨s9, ha⟩ := hq
          exact ⟨_, _, _, rs, rfl, fun b o nb eb => s9 b o (B8 b o nb eb), z8.same s9, s9 _ _ hL8, ⟨xs, s9 _ _ hx, prs_same s9 hpr⟩, by omega, okr, alt⟩
      · obtain ⟨y6, y7, y8, rs, rfl, b6, z6, hL6, hR, lr, okr, alt⟩ := hP
        exact ⟨_, rfl, q H6 p rs b6 z6 npH hR ⟨by omega, fun r h => (okr r h).1, alt⟩ (by omega) (fun r h => (okr r h).2)⟩
end
end UP

set_option Elab.async false
set_option linter.all false
set_option maxRecDepth 100000
set_option maxHeartbeats 4000000
namespace UP
open PySem PySem.Spec PyProof.Rows L2
def scR (t : Int) (rs : List Run) : List Run := rs.map fun r => (r.1, r.2 * t)
def toldR (ws : List Run) : Option Run := match ws with
  | [] => none
  | r :: _ => some (r.1, (ws.length : Int))
def repR (k : Str) (n : Int) : Option Run := if n = 0 then none else some (k, n)
theorem repR_zero (k : Str) : repR k 0 = none := if_pos rfl
theorem repR_pos {k : Str} {n : Int} (h : 0 < n) : repR k n = some (k, n) := if_neg (by omega)
def PosO (st : Option Run) : Prop := ∀ r, st = some r → 1 ≤ r.2
theorem stepR_pos {st : Option Run} {k : Str} {c : Int} (h : PosO st) (hc : 1 ≤ c) : PosO (stepR st k c) := by
  intro r e
  cases st with
  | none =>
    cases e
    exact hc
  | some x =>
    have hx := h x rfl
    have e : (if x.1 = k then some (k, x.2 + c) else if 0 < x.2 - c then some (x.1, x.2 - c) else if x.2 - c = 0 then none else some (k, -(x.2 - c))) = some r := e
    by_cases h1 : x.1 = k
    · rw [if_pos h1] at e
      cases e
      show 1 ≤ x.2 + c
      omega
    · rw [if_neg h1] at e
      by_cases h2 : 0 < x.2 - c
      · rw [if_pos h2] at e
        cases e
        show 1 ≤ x.2 - c
        omega
      · rw [if_neg h2] at e
        by_cases h3 : x.2 - c = 0
        · rw [if_pos h3] at e
          cases e
        · rw [if_neg h3] at e
          cases e
          show 1 ≤ -(x.2 - c)
          omega
theorem stR_cons (r : Run) (l : List Run) (st : Option Run) : stR (r :: l) st = stR l (stepR st r.1 r.2) := rfl
theorem stR_pos : ∀ {rs : List Run} {st : Option Run}, PosO st → (∀ r ∈ rs, 1 ≤ r.2) → PosO (stR rs st)
  | [], _, h, _ => h
  | r :: t, st, h, k => by
    rw [stR_cons]
    exact stR_pos (stepR_pos h (k r (List.mem_cons_self ..))) fun x hx => k x (List.mem_cons_of_mem _ hx)
theorem StOk.pos {st : Option Run} (h : StOk st) : PosO st := fun r e => (h r e).2
section
variable {P : Program} {w : World} {K : PySem.W.Frag} {mg : Str → Option Value} {base : Heap}
end
end UP

set_option Elab.async false
set_option linter.all false
set_option maxRecDepth 100000
set_option maxHeartbeats 4000000
namespace UP
open PySem PySem.Spec PyProof.Rows L2
/-! ### plain data, by depth -/
def Dsc (v : V) (d : PyData) : Prop := (v = .non ∧ d = .none) ∨ (∃ b, v = .bl b ∧ d = .bool b) ∨ (∃ i, v = .int i ∧ d = .int i) ∨ ∃ s, v = .str s ∧ d = .str s
def Dt (H : Hp) : Nat → V → PyData → Prop
  | 0, v, d => Dsc v d
  | n + 1, v, d => Dsc v d ∨ (∃ a xs ds, v = .ref a ∧ H a = some (.lst xs) ∧ d = .list ds ∧ Paired (Dt H n) xs ds ∧ ds.length ≤ 100000) ∨ ∃ a xs ds, v = .ref a ∧ H a = some (.tup xs) ∧ d = .tuple ds ∧ Paired (Dt H n) xs ds ∧ ds.length ≤ 100000
theorem Dt.same {H H' : Hp} (s : Same H H') : ∀ {n : Nat} {v : V} {d : PyData}, Dt H n v d → Dt H' n v d
  | 0, _, _, h => h
  | n + 1, v, d, h => by
    rcases h with h | ⟨a, xs, ds, e, h, e2, p, l⟩ | ⟨a, xs, ds, e, h, e2, p, l⟩
    · exact .inl h
    · exact .inr (.inl ⟨a, xs, ds, e, s _ _ h, e2, Paired.imp (fun _ _ z => Dt.same s z) p, l⟩)
    · exact .inr (.inr ⟨a, xs, ds, e, s _ _ h, e2, Paired.imp (fun _ _ z => Dt.same s z) p, l⟩)
theorem dsc_ref {a : Addr} {d : PyData} (h : Dsc (.ref a) d) : False := by
  rcases h with ⟨h, _⟩ | ⟨_, h, _⟩ | ⟨_, h, _⟩ | ⟨_, h, _⟩ <;> cases h
theorem dsc_lst {v : V} {ds : List PyData} (h : Dsc v (.list ds)) : False := by
  rcases h with ⟨_, h⟩ | ⟨_, _, h⟩ | ⟨_, _, h⟩ | ⟨_, _, h⟩ <;> cases h
theorem dsc_tup {v : V} {ds : List PyData} (h : Dsc v (.tuple ds)) : False := by
  rcases h with ⟨_, h⟩ | ⟨_, _, h⟩ | ⟨_, _, h⟩ | ⟨_, _, h⟩ <;> cases h
theorem dsc_one {v v' : V} {d : PyData} (h : Dsc v d) (h' : Dsc v' d) : v = v' := by
  rcases h with ⟨e, z⟩ | ⟨x, e, z⟩ | ⟨x, e, z⟩ | ⟨x, e, z⟩ <;> subst z <;> rcases h' with ⟨e', z⟩ | ⟨y, e', z⟩ | ⟨y, e', z⟩ | ⟨y, e', z⟩ <;> cases z <;> rw [e, e']
theorem kit_no {K : PySem.W.Frag} {c : String} (h1 : kitB c "list" = some false) (h2 : kitB c "tuple" = some false) : PySem.W.kitAny K (.type c) [.type "list", .type "tuple"] = some false :=
  kitAny_cons (b := false) (kit_ty h1) (fun _ => kitAny_cons (b := false) (kit_ty h2) (fun _ => rfl) (fun z => nomatch z)) (fun z => nomatch z)
theorem ixL {K : PySem.W.Frag} {x y : V} {H : Hp} {Q : VK} (h : rIxL K x y H Q) : rIx K x y H Q := .inl h
theorem ixT {K : PySem.W.Frag} {x y : V} {H : Hp} {Q : VK} (h : rIxT K x y H Q) : rIx K x y H Q := .inr (.inl h)
section
variable {P : Program} {w : World} {K : PySem.W.Frag} {mg : Str → Option Value} {base : Heap}
end
end UP

set_option Elab.async false
set_option linter.all false
set_option maxRecDepth 100000
set_option maxHeartbeats 4000000
namespace UP
open PySem PySem.Spec PyProof.Rows L2
/-! ### a walk over one object that stays, whatever else is changed -/
structure WkA (J : It) (H : Hp) (a : Addr) (xs : List V) : Prop where
  go : ∀ i H', H' a = H a → i < xs.length → J.go i H'
  stop : ∀ H', H' a = H a → J.stop xs.length H'
  yld : ∀ i x H' H'', H' a = H a → J.yld i H' x H'' → H'' = H' ∧ xs[i]? = some x
def iSeqA (i : Nat) : TI := fun σ H R => ∃ a xs, σ[i]? = some (some (.ref a)) ∧ Sq2 H a xs ∧ ∀ J, WkA J H a xs → R J H
section
variable {X : Cx}
theorem wka_list {K : PySem.W.Frag} {H : Hp} {a : Addr} {xs : List V} (h : H a = some (.lst xs)) : WkA (Itl K a) H a xs :=
  ⟨fun i H' e hi => ⟨xs, xs[i], .of (e.trans h), List.getElem?_eq_getElem hi⟩, fun H' e => ⟨xs, .of (e.trans h), Nat.le_refl _⟩, fun i x H' H'' e y => ⟨y.1, y.2 xs (.of (e.trans h))⟩⟩
theorem wka_tup {K : PySem.W.Frag} {H : Hp} {a : Addr} {xs : List V} (h : H a = some (.tup xs)) : WkA (Itt K a) H a xs :=
  ⟨fun i H' e hi => ⟨xs, xs[i], .of (e.trans h), List.getElem?_eq_getElem hi⟩, fun H' e => ⟨xs, .of (e.trans h), Nat.le_refl _⟩, fun i x H' H'' e y => ⟨y.1, y.2 xs (.of (e.trans h))⟩⟩
theorem pi_seqA (i : Nat) {x : Str} {pos : Pos} {tg : Expr} (hN : X.N[i]? = some x := by rfl) (hv : Vis X.env.scope x := by first | exact Or.inl rfl | exact Or.inr (Or.inl rfl) | exact Or.inr (Or.inr rfl)) (hd : (x == ("__debug__" : Str)) = false := by decide)
    (hc : (x == ("__classdict__" : Str)) = false := by decide) : PI X tg (.Name x pos) (iSeqA i) := by
  refine ⟨fun pins s σ H R I hw => ?_⟩
  obtain ⟨a, xs, e, h, k⟩ := hw
  rcases h with h | h
  · exact (pi_list (pe_var hN hv hd hc)).run pins s σ H R I ⟨_, e, a, rfl, ⟨xs, .of h⟩, k _ (wka_list h)⟩
  · exact (pi_tup (pe_var hN hv hd hc)).run pins s σ H R I ⟨_, e, a, rfl, ⟨xs, .of h⟩, k _ (wka_tup h)⟩
end
theorem lc_wka {J : It} {H0 H1 : Hp} {a : Addr} {xs : List V} {g : TG} {tt : TT} {te : TE} {vs : List Nat} {σ : L2.St} {D : Addr} {Qd : Hp → Prop} (wk : WkA J H0 a xs) (Pv : Nat → Hp → Prop) (hsm : ∀ i H, Pv i H → H a = H0 a) (h0 : Pv 0 (upd H1 D (.lst [])))
    (hs : ∀ i x H, xs[i]? = some x → Pv i H → g x (wipe σ vs) H fun σ2 H2 => wipe σ2 vs = wipe σ vs ∧ tt σ2 H2 fun b H3 =>
      if b = true then te σ2 H3 fun y H4 => ∃ acc, H4 D = some (.lst acc) ∧ acc.length < sizeLine ∧ Pv (i + 1) (upd H4 D (.lst (acc ++ [y]))) else Pv (i + 1) H3) (hd : ∀ H, Pv xs.length H → Qd H) :
    ∃ W : Nat → Nat → Hp → Prop, (∃ m, W 0 m (upd H1 D (.lst []))) ∧ ∀ i m H, W i m H →
      (J.stop i H ∧ Qd H) ∨ (J.go i H ∧ ∃ Nx : Hp → Prop, (∀ H', Nx H' → ∃ m', m' < m ∧ W (i + 1) m' H') ∧ ∀ x H', J.yld i H x H' → g x (wipe σ vs) H' fun σ2 H2 => wipe σ2 vs = wipe σ vs ∧ tt σ2 H2 fun b H3 =>
        if b = true then te σ2 H3 fun y H4 => ∃ acc, H4 D = some (.lst acc) ∧ acc.length < sizeLine ∧ Nx (upd H4 D (.lst (acc ++ [y]))) else Nx H3) := by
  refine lc_gen Pv h0 (fun i H hi p => wk.go i H (hsm i H p) hi) (fun H p => wk.stop H (hsm _ H p)) (fun i x H H' hi p y => ?_) hd
  obtain ⟨e, ex⟩ := wk.yld i x H H' (hsm i H p) y
  subst e
  exact hs i x _ ex p
theorem for_gen {J : It} {n : Nat} {H : Hp} {g : TG} {tb : TS} {D : Ends} {σ : L2.St} (Pv : Nat → L2.St → Hp → Prop) (h0 : Pv 0 σ H) (hg : ∀ i σ H, i < n → Pv i σ H → J.go i H) (hst : ∀ σ H, Pv n σ H → J.stop n H)
    (hs : ∀ i x σ H H', i < n → Pv i σ H → J.yld i H x H' → g x σ H' fun σ2 H2 => tb { D with nx := Pv (i + 1), ct := Pv (i + 1), bk := D.nx } σ2 H2) (hd : ∀ σ H, Pv n σ H → D.nx σ H) :
    ∃ W : Nat → Nat → L2.St → Hp → Prop, (∃ m, W 0 m σ H) ∧ ∀ i m σ H, W i m σ H →
      (J.stop i H ∧ D.nx σ H) ∨ (J.go i H ∧ ∃ N : L2.St → Hp → Prop, (∀ σ' H', N σ' H' → ∃ m', m' < m ∧ W (i + 1) m' σ' H') ∧ ∀ x H', J.yld i H x H' → g x σ H' fun σ2 H2 => tb { D with nx := N, ct := N, bk := D.nx } σ2 H2) := by
  refine ⟨fun i m σ H => m = n - i ∧ i ≤ n ∧ Pv i σ H, ⟨n, by omega, Nat.zero_le _, h0⟩, ?_⟩
  rintro i m σ H ⟨rfl, hi, p⟩
  by_cases hlt : i < n
  · exact Or.inr ⟨hg i σ H hlt p, Pv (i + 1), fun σ' H' p' => ⟨n - (i + 1), by omega, rfl, hlt, p'⟩, fun x H' y => hs i x σ H H' hlt p y⟩
  · have e : i = n := by omega
    subst e
    exact Or.inl ⟨hst σ H p, hd σ H p⟩
theorem for_wka {J : It} {H0 H : Hp} {a : Addr} {xs : List V} {g : TG} {tb : TS} {D : Ends} {σ : L2.St} (wk : WkA J H0 a xs) (Pv : Nat → L2.St → Hp → Prop) (hsm : ∀ i σ H, Pv i σ H → H a = H0 a) (h0 : Pv 0 σ H)
    (hs : ∀ i x σ H, xs[i]? = some x → Pv i σ H → g x σ H fun σ2 H2 => tb { D with nx := Pv (i + 1), ct := Pv (i + 1), bk := D.nx } σ2 H2) (hd : ∀ σ H, Pv xs.length σ H → D.nx σ H) :
    ∃ W : Nat → Nat → L2.St → Hp → Prop, (∃ m, W 0 m σ H) ∧ ∀ i m σ H, W i m σ H →
      (J.stop i H ∧ D.nx σ H) ∨ (J.go i H ∧ ∃ N : L2.St → Hp → Prop, (∀ σ' H', N σ' H' → ∃ m', m' < m ∧ W (i + 1) m' σ' H') ∧ ∀ x H', J.yld i H x H' → g x σ H' fun σ2 H2 => tb { D with nx := N, ct := N, bk := D.nx } σ2 H2) := by
  refine for_gen Pv h0 (fun i σ H hi p => wk.go i H (hsm i σ H p) hi) (fun σ H p => wk.stop H (hsm _ σ H p)) (fun i x σ H H' hi p y => ?_) hd
  obtain ⟨e, ex⟩ := wk.yld i x H H' (hsm i σ H p) y
  subst e
  exact hs i x σ _ ex p
theorem Sq2.eq {H H' : Hp} {a : Addr} {xs : List V} (h : Sq2 H a xs) (s : Same H H') : H' a = H a := h.elim (fun z => (s _ _ z).trans z.symm) (fun z => (s _ _ z).trans z.symm)
/-! ### data without its dress -/
def Sim (N : Addr → Prop) (H : Hp) : Nat → V → PyData → Prop
  | 0, v, d => Dsc v d
  | n + 1, v, d => Dsc v d ∨ ∃ a xs ds, v = .ref a ∧ N a ∧ Sq2 H a xs ∧ d = .list ds ∧ Paired (Sim N H n) xs ds ∧ ds.length ≤ 1000
theorem Sim.keep {N N' : Addr → Prop} {H H' : Hp} (hn : ∀ a, N a → N' a) (hk : ∀ a o, N a → H a = some o → H' a = some o) : ∀ {n : Nat} {v : V} {d : PyData}, Sim N H n v d → Sim N' H' n v d
  | 0, _, _, h => h
  | n + 1, v, d, h => by
    rcases h with h | ⟨a, xs, ds, e, na, hx, e2, p, l⟩
    · exact .inl h
    · exact .inr ⟨a, xs, ds, e, hn a na, hx.elim (fun z => .inl (hk _ _ na z)) (fun z => .inr (hk _ _ na z)), e2, Paired.imp (fun _ _ z => Sim.keep hn hk z) p, l⟩
theorem Sim.dsc {N : Addr → Prop} {H : Hp} {v : V} {d : PyData} : ∀ {n : Nat}, Dsc v d → Sim N H n v d
  | 0, h => h
  | n + 1, h => .inl h
section
variable {P : Program} {w : World} {K : PySem.W.Frag} {mg : Str → Option Value} {base : Heap}
end
end UP

set_option Elab.async false
set_option linter.all false
set_option maxRecDepth 100000
set_option maxHeartbeats 4000000
namespace UP
open PySem PySem.Spec PyProof.Rows L2
/-! ### waiting items one by one -/
def plS (ws : List Run) (k : Str) (n : Nat) : List Run := match ws with
  | [] => [(k, (n : Int))]
  | r :: t => if r.1 = k then (r :: t) ++ [(k, (n : Int))] else t
def plP (ws : List Run) (k : Str) (n : Nat) : List (Int × Int) := match ws with
  | [] => []
  | r :: _ => if r.1 = k then [] else [(r.2, (n : Int))]
def plA (ws : List Run) (n : Nat) : List Str → List Run
  | [] => ws
  | k :: t => plA (plS ws k n) (n + 1) t
def psR (ws : List Run) (n : Nat) : List Str → List (Int × Int)
  | [] => []
  | k :: t => plP ws k n ++ psR (plS ws k n) (n + 1) t
theorem plA_snoc : ∀ (l : List Str) (ws : List Run) (n : Nat) (k : Str), plA ws n (l ++ [k]) = plS (plA ws n l) k (n + l.length)
  | [], ws, n, k => rfl
  | x :: t, ws, n, k => by
    show plA (plS ws x n) (n + 1) (t ++ [k]) = plS (plA (plS ws x n) (n + 1) t) k (n + (x :: t).length)
    rw [plA_snoc t, List.length_cons, show n + 1 + t.length = n + (t.length + 1) by omega]
theorem psR_snoc : ∀ (l : List Str) (ws : List Run) (n : Nat) (k : Str), psR ws n (l ++ [k]) = psR ws n l ++ plP (plA ws n l) k (n + l.length)
  | [], ws, n, k => by
    show plP ws k n ++ [] = [] ++ plP ws k (n + 0)
    rw [List.append_nil, List.nil_append, Nat.add_zero]
  | x :: t, ws, n, k => by
    show plP ws x n ++ psR (plS ws x n) (n + 1) (t ++ [k]) = (plP ws x n ++ psR (plS ws x n) (n + 1) t) ++ plP (plA (plS ws x n) (n + 1) t) k (n + (x :: t).length)
    rw [psR_snoc t, List.length_cons, List.append_assoc, show n + 1 + t.length = n + (t.length + 1) by omega]
def plMs (ws : List Run) (ks : List Str) : List (List Run) := (List.range (ks.length + 1)).map fun m => plA ws 0 (ks.take m)
theorem plMs_snoc (ws : List Run) (l : List Str) (k : Str) : plMs ws (l ++ [k]) = plMs ws l ++ [plA ws 0 (l ++ [k])] := by
  unfold plMs
  rw [List.length_append, List.length_cons, List.length_nil, Nat.zero_add, List.range_succ, List.map_append]
  congr 1
  · refine List.map_congr_left fun m hm => ?_
    have : m ≤ l.length := by
      have := List.mem_range.mp hm
      omega
    rw [List.take_append_of_le_length this]
  · rw [List.map_singleton, List.take_of_length_le (by rw [List.length_append]; exact Nat.le_refl _)]
theorem plMs_nil (ws : List Run) : plMs ws [] = [ws] := rfl
theorem plMs_len (ws : List Run) (l : List Str) : (plMs ws l).length = l.length + 1 := by
  unfold plMs
  rw [List.length_map, List.length_range]
theorem plS_len (ws : List Run) (k : Str) (n : Nat) : (plS ws k n).length ≤ ws.length + 1 := by
  cases ws with
  | nil => exact Nat.le_refl _
  | cons r t =>
    show (if r.1 = k then (r :: t) ++ [(k, (n : Int))] else t).length ≤ _
    split
    · rw [List.length_append]
      exact Nat.le_refl _
    · rw [List.length_cons]
      omega
theorem plA_len : ∀ (l : List Str) (ws : List Run) (n : Nat), (plA ws n l).length ≤ ws.length + l.length
  | [], ws, n => Nat.le_refl _
  | k :: t, ws, n => by
    have h1 := plA_len t (plS ws k n) (n + 1)
    have h2 := plS_len ws k n
    show (plA (plS ws k n) (n + 1) t).length ≤ _
    rw [List.length_cons]
    omega
theorem plP_len (ws : List Run) (k : Str) (n : Nat) : (plP ws k n).length ≤ 1 := by
  cases ws with
  | nil => exact Nat.zero_le _
  | cons r t =>
    show (if r.1 = k then [] else [(r.2, (n : Int))]).length ≤ 1
    split <;> simp
theorem psR_len : ∀ (l : List Str) (ws : List Run) (n : Nat), (psR ws n l).length ≤ l.length
  | [], ws, n => Nat.le_refl _
  | k :: t, ws, n => by
    have h1 := psR_len t (plS ws k n) (n + 1)
    have h2 := plP_len ws k n
    show (plP ws k n ++ psR (plS ws k n) (n + 1) t).length ≤ _
    rw [List.length_append, List.length_cons]
    omega
theorem plS_kinds {ws : List Run} {k : Str} {n : Nat} (h : ∀ r ∈ ws, KindOk r.1) (hk : KindOk k) : ∀ r ∈ plS ws k n, KindOk r.1 := by
  intro r hr
  cases ws with
  | nil =>
    rw [List.mem_singleton.mp (show r ∈ [(k, (n : Int))] from hr)]
    exact hk
  | cons x t =>
    have hr : r ∈ (if x.1 = k then (x :: t) ++ [(k, (n : Int))] else t) := hr
    by_cases e : x.1 = k
    · rw [if_pos e] at hr
      rcases List.mem_append.mp hr with z | z
      · exact h r z
      · rw [List.mem_singleton.mp z]
        exact hk
    · rw [if_neg e] at hr
      exact h r (List.mem_cons_of_mem _ hr)
theorem plA_kinds : ∀ {l : List Str} {ws : List Run} {n : Nat}, (∀ r ∈ ws, KindOk r.1) → (∀ k ∈ l, KindOk k) → ∀ r ∈ plA ws n l, KindOk r.1
  | [], _, _, h, _ => h
  | k :: t, ws, n, h, hl => plA_kinds (l := t) (plS_kinds h (hl k (List.mem_cons_self ..))) fun x hx => hl x (List.mem_cons_of_mem _ hx)
def w0R : Option Run → List Run
  | none => []
  | some r => List.replicate r.2.toNat (r.1, -1)
def itR (rs : List Run) : List Str := rs.flatMap fun r => List.replicate r.2.toNat r.1
theorem itR_snoc (l : List Run) (r : Run) : itR (l ++ [r]) = itR l ++ List.replicate r.2.toNat r.1 := by
  unfold itR
  rw [List.flatMap_append]
  simp
def PV (H : Hp) (v : V) (p : Int × Int) : Prop := ∃ t, v = .ref t ∧ H t = some (.tup [.int p.1, .int p.2])
theorem PV.same {H H' : Hp} {v : V} {p : Int × Int} (s : Same H H') (h : PV H v p) : PV H' v p := by
  obtain ⟨t, e, h⟩ := h
  exact ⟨t, e, s _ _ h⟩
theorem PV.grow {H : Hp} {D : Addr} {acc acc' : List V} {v : V} {p : Int × Int} (hD : H D = some (.lst acc)) (h : PV H v p) : PV (upd H D (.lst acc')) v p := by
  obtain ⟨t, e, h⟩ := h
  refine ⟨t, e, ?_⟩
  rw [upd_ne (ne_of h hD (by intro q; cases q))]
  exact h
theorem Runs.grow {H : Hp} {D a : Addr} {acc acc' : List V} {ws : List Run} (hD : H D = some (.lst acc)) (n : a ≠ D) (h : Runs H a ws) : Runs (upd H D (.lst acc')) a ws := by
  obtain ⟨xs, hx, hp⟩ := h
  refine ⟨xs, ?_, prs_grow hD hp⟩
  rw [upd_ne n]
  exact hx
/-- a list of runs apart from two others -/
def WL (H : Hp) (M N : Addr) (v : V) (ws : List Run) : Prop := ∃ a, v = .ref a ∧ a ≠ M ∧ a ≠ N ∧ Runs H a ws
theorem WL.same {H H' : Hp} {M N : Addr} {v : V} {ws : List Run} (s : Same H H') (h : WL H M N v ws) : WL H' M N v ws := by
  obtain ⟨a, e, n1, n2, h⟩ := h
  exact ⟨a, e, n1, n2, h.same s⟩
/-- what the play keeps -/
structure Pl (H0 H : Hp) (W M N : Addr) (ws0 : List Run) (ks ls : List Str) : Prop where
  sm : Same H0 H
  wm : W ≠ M
  wn : W ≠ N
  wr : Runs H W (plA ws0 0 ls)
  ms : ∃ xs, H M = some (.lst xs) ∧ Paired (WL H M N) xs (plMs ws0 ks)
  ps : ∃ ys, H N = some (.lst ys) ∧ Paired (PV H) ys (psR ws0 0 ls)
theorem flat_one {α : Type} (x : α) : ∀ n : Nat, (List.replicate n [x]).flatten = List.replicate n x
  | 0 => rfl
  | n + 1 => by
    rw [List.replicate_succ, List.flatten_cons, flat_one x n]
    rfl
theorem paired_rep {α β : Type} {F : α → β → Prop} {a : α} {b : β} (h : F a b) : ∀ n : Nat, Paired F (List.replicate n a) (List.replicate n b)
  | 0 => .nil
  | n + 1 => .cons h (paired_rep h n)
theorem len_items {rs : List Run} (h : ∀ r ∈ rs, 1 ≤ r.2 ∧ r.2 ≤ 1000) : (itR rs).length ≤ 1000 * rs.length := by
  induction rs with
  | nil => exact Nat.le_refl _
  | cons r t ih =>
    have e : itR (r :: t) = List.replicate r.2.toNat r.1 ++ itR t := rfl
    have h1 := h r (List.mem_cons_self ..)
    have h2 := ih fun x hx => h x (List.mem_cons_of_mem _ hx)
    rw [e, List.length_append, List.length_replicate, List.length_cons]
    omega
end UP

set_option Elab.async false
set_option linter.all false
set_option maxRecDepth 100000
set_option maxHeartbeats 4000000
namespace UP
open PySem PySem.Spec PyProof.Rows L2
section
variable {P : Program} {w : World} {K : PySem.W.Frag} {mg : Str → Option Value} {base : Heap}
end
end UP

set_option Elab.async false
set_option linter.all false
set_option maxRecDepth 100000
set_option maxHeartbeats 4000000
namespace UP
open PySem PySem.Spec PyProof.Rows L2
/-! ### one arrival after the other -/
def stI (ks : List Str) (st : Option Run) : Option Run := ks.foldl (fun s k => stepR s k 1) st
theorem stI_app (l m : List Str) (st : Option Run) : stI (l ++ m) st = stI m (stI l st) := List.foldl_append ..
theorem step_same {r : Run} {k : Str} {c : Int} (h : r.1 = k) : stepR (some r) k c = some (k, r.2 + c) := if_pos h
theorem step_other {r : Run} {k : Str} {c : Int} (h : r.1 ≠ k) : stepR (some r) k c = if 0 < r.2 - c then some (r.1, r.2 - c) else if r.2 - c = 0 then none else some (k, -(r.2 - c)) := if_neg h
theorem step_step {s : Option Run} {k : Str} {c : Int} (h : PosO s) (hc : 1 ≤ c) : stepR (stepR s k 1) k c = stepR s k (1 + c) := by
  cases s with
  | none => exact step_same (r := (k, 1)) rfl
  | some r =>
    have r1 := h r rfl
    by_cases e : r.1 = k
    · rw [step_same e, step_same e, step_same (r := (k, r.2 + 1)) rfl]
      show some (k, r.2 + 1 + c) = _
      rw [Int.add_assoc]
    · rw [step_other e, step_other e]
      by_cases h1 : 0 < r.2 - 1
      · rw [if_pos h1, step_other (r := (r.1, r.2 - 1)) e]
        show (if 0 < r.2 - 1 - c then some (r.1, r.2 - 1 - c) else if r.2 - 1 - c = 0 then none else some (k, -(r.2 - 1 - c))) = _
        rw [show r.2 - 1 - c = r.2 - (1 + c) by omega]
      · have e2 : r.2 - 1 = 0 := by omega
        rw [if_neg h1, if_pos e2, if_neg (by omega), if_neg (by omega)]
        show some (k, c) = _
        rw [show -(r.2 - (1 + c)) = c by omega]
theorem it_step : ∀ (n : Nat) (s : Option Run) (k : Str), PosO s → stI (List.replicate (n + 1) k) s = stepR s k ((n : Int) + 1)
  | 0, s, k, _ => rfl
  | n + 1, s, k, h => by
    show stI (List.replicate (n + 1) k) (stepR s k 1) = _
    rw [it_step n _ k (stepR_pos h (by decide)), step_step h (by omega)]
    congr 1
    omega
theorem st_items : ∀ (rs : List Run) (st : Option Run), PosO st → (∀ r ∈ rs, 1 ≤ r.2) → stR rs st = stI (itR rs) st
  | [], st, _, _ => rfl
  | r :: t, st, h, k => by
    have c1 := k r (List.mem_cons_self ..)
    have e : itR (r :: t) = List.replicate r.2.toNat r.1 ++ itR t := rfl
    obtain ⟨n, hn⟩ : ∃ n : Nat, r.2.toNat = n + 1 := ⟨r.2.toNat - 1, by omega⟩
    rw [e, stI_app, hn, it_step n _ _ h, stR_cons, show ((n : Int) + 1) = r.2 by omega]
    exact st_items t _ (stepR_pos h c1) fun x hx => k x (List.mem_cons_of_mem _ hx)
theorem take_app {α : Type} : ∀ (l m : List α) (n : Nat), (l ++ m).take n = l.take n ++ m.take (n - l.length)
  | [], m, n => by
    rw [List.nil_append, List.take_nil, List.nil_append, List.length_nil, Nat.sub_zero]
  | x :: t, m, 0 => by
    rw [List.take_zero, List.take_zero, Nat.zero_sub, List.take_zero]
    rfl
  | x :: t, m, n + 1 => by
    rw [List.cons_append, List.take_succ_cons, take_app t m n, List.take_succ_cons, List.length_cons, Nat.add_sub_add_right]
    rfl
theorem it_app (l m : List Run) : itR (l ++ m) = itR l ++ itR m := List.flatMap_append ..
theorem cut_items (e : Int) : ∀ (rs : List Run) (b : Int), 0 ≤ b → (∀ r ∈ rs, 1 ≤ r.2) → itR (cutR 0 e b rs) = (itR rs).take (e - b).toNat
  | [], b, _, _ => by
    show ([] : List Str) = ([] : List Str).take _
    rw [List.take_nil]
  | r :: t, b, hb, k => by
    have c1 := k r (List.mem_cons_self ..)
    have ih := cut_items e t (b + r.2) (by omega) fun x hx => k x (List.mem_cons_of_mem _ hx)
    have e1 : cutR 0 e b (r :: t) = pieceR b 0 e r ++ cutR 0 e (b + r.2) t := rfl
    have e2 : itR (r :: t) = List.replicate r.2.toNat r.1 ++ itR t := rfl
    rw [e1, it_app, ih, e2, take_app, List.length_replicate, List.take_replicate, show (e - (b + r.2)).toNat = (e - b).toNat - r.2.toNat by omega]
    congr 1
    have es : sizeR b 0 e r.2 = (if b + r.2 < e then b + r.2 else e) - b := by
      unfold sizeR
      by_cases h0 : b > 0
      · rw [if_pos h0]
      · rw [if_neg h0, show b = 0 by omega]
    by_cases hs : 0 < sizeR b 0 e r.2
    · rw [show pieceR b 0 e r = [(r.1, sizeR b 0 e r.2)] from if_pos hs]
      show List.replicate (sizeR b 0 e r.2).toNat r.1 ++ [] = _
      rw [List.append_nil]
      congr 1
      rw [es] at hs ⊢
      split <;> omega
    · rw [show pieceR b 0 e r = [] from if_neg hs]
      rw [es] at hs
      rw [show min (e - b).toNat r.2.toNat = 0 by split at hs <;> omega]
      rfl
theorem len_it : ∀ (rs : List Run), (∀ r ∈ rs, 1 ≤ r.2) → ((itR rs).length : Int) = lenR rs
  | [], _ => rfl
  | r :: t, k => by
    have c1 := k r (List.mem_cons_self ..)
    have ih := len_it t fun x hx => k x (List.mem_cons_of_mem _ hx)
    have e2 : itR (r :: t) = List.replicate r.2.toNat r.1 ++ itR t := rfl
    rw [e2, List.length_append, List.length_replicate, lenR_cons]
    omega
/-! ### what is told of waiting items -/
def Uni (ws : List Run) : Prop := ∀ x ∈ ws, ∀ y ∈ ws, x.1 = y.1
theorem uni_plS {ws : List Run} {k : Str} {n : Nat} (h : Uni ws) : Uni (plS ws k n) := by
  cases ws with
  | nil =>
    intro x hx y hy
    rw [List.mem_singleton.mp (show x ∈ [(k, (n : Int))] from hx), List.mem_singleton.mp (show y ∈ [(k, (n : Int))] from hy)]
  | cons r t =>
    by_cases e : r.1 = k
    · rw [show plS (r :: t) k n = (r :: t) ++ [(k, (n : Int))] from if_pos e]
      have all : ∀ x ∈ (r :: t) ++ [(k, (n : Int))], x.1 = k := by
        intro x hx
        rcases List.mem_append.mp hx with z | z
        · rw [h x z r (List.mem_cons_self ..)]
          exact e
        · rw [List.mem_singleton.mp z]
      intro x hx y hy
      rw [all x hx, all y hy]
    · rw [show plS (r :: t) k n = t from if_neg e]
      exact fun x hx y hy => h x (List.mem_cons_of_mem _ hx) y (List.mem_cons_of_mem _ hy)
theorem told_plS {ws : List Run} {k : Str} {n : Nat} (h : Uni ws) : toldR (plS ws k n) = stepR (toldR ws) k 1 := by
  cases ws with
  | nil => rfl
  | cons r t =>
    by_cases e : r.1 = k
    · rw [show plS (r :: t) k n = (r :: t) ++ [(k, (n : Int))] from if_pos e]
      show some (r.1, (((r :: t) ++ [(k, (n : Int))]).length : Int)) = stepR (some (r.1, ((r :: t).length : Int))) k 1
      rw [step_same (r := (r.1, ((r :: t).length : Int))) e, List.length_append, e]
      show some (k, (((r :: t).length + 1 : Nat) : Int)) = some (k, ((r :: t).length : Int) + 1)
      rw [Int.natCast_add]
      rfl
    · rw [show plS (r :: t) k n = t from if_neg e]
      show toldR t = stepR (some (r.1, ((r :: t).length : Int))) k 1
      rw [step_other (r := (r.1, ((r :: t).length : Int))) e]
      cases t with
      | nil => rfl
      | cons x u =>
        have ex : x.1 = r.1 := h x (List.mem_cons_of_mem _ (List.mem_cons_self ..)) r (List.mem_cons_self ..)
        show some (x.1, ((x :: u).length : Int)) = if 0 < ((r :: x :: u).length : Int) - 1 then some (r.1, ((r :: x :: u).length : Int) - 1) else _
        rw [List.length_cons, List.length_cons, List.length_cons, if_pos (by omega), ex]
        congr 2
        omega
theorem told_plA : ∀ (l : List Str) (ws : List Run) (n : Nat), Uni ws → toldR (plA ws n l) = stI l (toldR ws)
  | [], _, _, _ => rfl
  | k :: t, ws, n, h => by
    show toldR (plA (plS ws k n) (n + 1) t) = stI t (stepR (toldR ws) k 1)
    rw [told_plA t _ _ (uni_plS h), told_plS h]
theorem uni_w0 (st : Option Run) : Uni (w0R st) := by
  cases st with
  | none => intro x hx; cases hx
  | some r =>
    intro x hx y hy
    rw [List.eq_of_mem_replicate hx, List.eq_of_mem_replicate hy]
theorem told_w0 {st : Option Run} (h : PosO st) : toldR (w0R st) = st := by
  cases st with
  | none => rfl
  | some r =>
    have r1 := h r rfl
    obtain ⟨n, hn⟩ : ∃ n : Nat, r.2.toNat = n + 1 := ⟨r.2.toNat - 1, by omega⟩
    show toldR (List.replicate r.2.toNat (r.1, (-1 : Int))) = some r
    rw [hn, List.replicate_succ]
    show some (r.1, (((r.1, (-1 : Int)) :: List.replicate n (r.1, (-1 : Int))).length : Int)) = some r
    rw [List.length_cons, List.length_replicate, show ((n + 1 : Nat) : Int) = r.2 by omega]
/-! ### all counts multiplied -/
def scO (t : Int) (st : Option Run) : Option Run := st.map fun r => (r.1, r.2 * t)
theorem lt_sc {a b t : Int} (ht : 0 < t) : a * t < b * t ↔ a < b :=
  ⟨fun h => by
    by_cases z : a < b
    · exact z
    · have := Int.mul_le_mul_of_nonneg_right (show b ≤ a by omega) (Int.le_of_lt ht)
      omega, fun h => Int.mul_lt_mul_of_pos_right h ht⟩
theorem size_sc {b s e c t : Int} (ht : 0 < t) : sizeR (b * t) (s * t) (e * t) (c * t) = sizeR b s e c * t := by
  unfold sizeR
  rw [← Int.add_mul, Int.sub_mul]
  congr 1
  · by_cases h : b + c < e
    · rw [if_pos h, if_pos ((lt_sc ht).mpr h)]
    · rw [if_neg h, if_neg fun z => h ((lt_sc ht).mp z)]
  · by_cases h : b > s
    · rw [if_pos h, if_pos ((lt_sc ht).mpr h)]
    · rw [if_neg h, if_neg fun z => h ((lt_sc ht).mp z)]
theorem pos_sc {a t : Int} (ht : 0 < t) : 0 < a * t ↔ 0 < a := by
  have := lt_sc (a := 0) (b := a) ht
  rw [Int.zero_mul] at this
  exact this
theorem piece_sc {b s e t : Int} {r : Run} (ht : 0 < t) : pieceR (b * t) (s * t) (e * t) (r.1, r.2 * t) = scR t (pieceR b s e r) := by
  unfold pieceR
  show (if 0 < sizeR (b * t) (s * t) (e * t) (r.2 * t) then [(r.1, sizeR (b * t) (s * t) (e * t) (r.2 * t))] else []) = _
  rw [size_sc ht]
  by_cases h : 0 < sizeR b s e r.2
  · rw [if_pos h, if_pos ((pos_sc ht).mpr h)]
    rfl
  · rw [if_neg h, if_neg fun z => h ((pos_sc ht).mp z)]
    rfl
theorem cut_sc {s e t : Int} (ht : 0 < t) : ∀ (rs : List Run) (b : Int), cutR (s * t) (e * t) (b * t) (scR t rs) = scR t (cutR s e b rs)
  | [], _ => rfl
  | r :: u, b => by
    have ih := cut_sc (s := s) (e := e) ht u (b + r.2)
    show pieceR (b * t) (s * t) (e * t) (r.1, r.2 * t) ++ cutR (s * t) (e * t) (b * t + r.2 * t) (scR t u) = scR t (pieceR b s e r ++ cutR s e (b + r.2) u)
    rw [← Int.add_mul, ih, piece_sc ht]
    unfold scR
    rw [List.map_append]
theorem step_sc {st : Option Run} {k : Str} {c t : Int} (ht : 0 < t) : stepR (scO t st) k (c * t) = scO t (stepR st k c) := by
  cases st with
  | none => rfl
  | some r =>
    show stepR (some (r.1, r.2 * t)) k (c * t) = _
    by_cases e : r.1 = k
    · rw [step_same (r := (r.1, r.2 * t)) e, step_same e]
      show some (k, r.2 * t + c * t) = some (k, (r.2 + c) * t)
      rw [Int.add_mul]
    · rw [step_other (r := (r.1, r.2 * t)) e, step_other e]
      show (if 0 < r.2 * t - c * t then some (r.1, r.2 * t - c * t) else if r.2 * t - c * t = 0 then none else some (k, -(r.2 * t - c * t))) = _
      rw [← Int.sub_mul]
      by_cases h : 0 < r.2 - c
      · rw [if_pos h, if_pos ((pos_sc ht).mpr h)]
        rfl
      · rw [if_neg h, if_neg fun z => h ((pos_sc ht).mp z)]
        by_cases h2 : r.2 - c = 0
        · rw [if_pos h2, h2, Int.zero_mul, if_pos rfl]
          rfl
        · have h3 : (r.2 - c) * t ≠ 0 := Int.mul_ne_zero h2 (by omega)
          rw [if_neg h2, if_neg h3]
          show some (k, -((r.2 - c) * t)) = some (k, -(r.2 - c) * t)
          rw [Int.neg_mul]
theorem st_sc {t : Int} (ht : 0 < t) : ∀ (rs : List Run) (st : Option Run), stR (scR t rs) (scO t st) = scO t (stR rs st)
  | [], _ => rfl
  | r :: u, st => by
    show stR (scR t u) (stepR (scO t st) r.1 (r.2 * t)) = scO t (stR u (stepR st r.1 r.2))
    rw [step_sc ht, st_sc ht u]
theorem len_sc {t : Int} : ∀ (rs : List Run), lenR (scR t rs) = lenR rs * t
  | [] => by
    show (0 : Int) = 0 * t
    rw [Int.zero_mul]
  | r :: u => by
    show lenR ((r.1, r.2 * t) :: scR t u) = _
    rw [lenR_cons, lenR_cons, len_sc u, Int.add_mul]
/-- the multiplied state at a multiplied moment -/
theorem whole_sc {t : Int} {rs : List Run} {st : Option Run} {p : Nat} (ht : 0 < t) (h : PosO st) (k : ∀ r ∈ rs, 1 ≤ r.2) :
    stR (cutR 0 ((p : Int) * t) 0 (scR t rs)) (scO t st) = scO t (toldR (plA (w0R st) 0 ((itR rs).take p))) := by
  have e := cut_sc (s := 0) (e := (p : Int)) ht rs 0
  rw [Int.zero_mul] at e
  rw [e, st_sc ht, told_plA _ _ _ (uni_w0 st), told_w0 h, st_items _ _ h cutR_pos, cut_items _ _ _ (Int.le_refl _) k, Int.sub_zero, Int.toNat_natCast]
end UP

set_option Elab.async false
set_option linter.all false
set_option maxRecDepth 100000
set_option maxHeartbeats 4000000
namespace UP
open PySem PySem.Spec PyProof.Rows L2
theorem room70 {A : Around} {k : Nat} (hr : Room k A) : A.units + 70 < cLine := by
  have := hr.un
  omega
theorem call_list_ofK {X : Cx} {K : PySem.W.Frag} (h : X.K = K) : CallR X (.type "list") (fun xs H Q => ∃ p ys, xs = [.ref p] ∧ (SqL K H p ys ∨ SqT K H p ys) ∧ ∀ l, H l = none → Q (.ref l) (upd H l (.lst ys))) := by
  subst h
  exact call_list_of
/-! ### data that a repr takes -/
structure Nice (w n : Nat) (d : PyData) : Prop where
  can : d.canLay0 = true
  dep : d.depth ≤ n
  sho : d.showable = true
  lea : d.leavesShort 100 = true
  wei : d.weight ≤ w
theorem Nice.mono {w w' n n' : Nat} {d : PyData} (h : Nice w n d) (h1 : w ≤ w') (h2 : n ≤ n') : Nice w' n' d := ⟨h.can, Nat.le_trans h.dep h2, h.sho, h.lea, Nat.le_trans h.wei h1⟩
theorem Nice.fits {w n : Nat} {d : PyData} (h : Nice w n d) (hw : w ≤ 150000) (hn : n ≤ 64) : d.showable = true ∧ SeqAt.shaped d = true ∧ d.shown.length ≤ sizeLine := by
  refine ⟨h.sho, ?_, ?_⟩
  · unfold SeqAt.shaped
    rw [h.can]
    have := h.dep
    exact decide_eq_true (by omega)
  · have h1 := PyData.shown_le 100 (by decide) d h.lea
    have h2 := h.wei
    have h3 : d.shown.length ≤ 16000000 := by omega
    exact Nat.le_trans h3 (by decide)
theorem nice_none : Nice 0 0 .none := ⟨rfl, Nat.le_refl _, rfl, rfl, Nat.le_refl _⟩
theorem nice_str {s : Str} (h : KindOk s) : Nice 8 0 (.str s) := by
  refine ⟨?_, Nat.le_refl _, rfl, ?_, h.2.1⟩
  · rw [PyData.canLay0]
    exact h.str
  · rw [PyData.leavesShort, List.all_eq_true]
    intro c hc
    have := h.2.2 c hc
    exact decide_eq_true (by omega)
theorem nice_int {i : Int} (h : i.natAbs < 10 ^ 60) : Nice 201 0 (.int i) := by
  have h2 : i.natAbs < 2 ^ 200 := Nat.lt_of_lt_of_le h (by decide)
  have h3 : i.natAbs.log2 < 200 := by
    by_cases z : i.natAbs = 0
    · rw [z]
      decide
    · exact (Nat.log2_lt z).mpr h2
  refine ⟨by rw [PyData.canLay0], Nat.le_refl _, ?_, ?_, ?_⟩
  · rw [PyData.showable]
    exact decide_eq_true (by omega)
  · rw [PyData.leavesShort]
    refine decide_eq_true ?_
    have e := int_text_length_le10 (k := 60) (by decide) h
    show (Str.ofString (toString i)).length ≤ 100
    rw [PySem.ofString_length]
    omega
  · rw [PyData.weight]
    split <;> omega
theorem nice_items {w n : Nat} : ∀ {ds : List PyData}, (∀ d ∈ ds, Nice w n d) → PyData.canLayAll0 ds = true ∧ PyData.depthAll ds ≤ n ∧ PyData.showableAll ds = true ∧ PyData.leavesShortAll 100 ds = true ∧ PyData.weightAll ds ≤ (w + 1) * ds.length
  | [], _ => ⟨rfl, Nat.zero_le _, rfl, rfl, Nat.zero_le _⟩
  | d :: t, h => by
    have h1 := h d (List.mem_cons_self ..)
    obtain ⟨a, b, c, e, f⟩ := nice_items (ds := t) fun x hx => h x (List.mem_cons_of_mem _ hx)
    refine ⟨?_, ?_, ?_, ?_, ?_⟩
    · rw [PyData.canLayAll0, h1.can, a]
      rfl
    · rw [PyData.depthAll]
      exact Nat.max_le.mpr ⟨h1.dep, b⟩
    · rw [PyData.showableAll, h1.sho, c]
      rfl
    · rw [PyData.leavesShortAll, h1.lea, e]
      rfl
    · have h2 := h1.wei
      rw [PyData.weightAll, List.length_cons, Nat.mul_succ]
      omega
theorem nice_list {w n : Nat} {ds : List PyData} (h : ∀ d ∈ ds, Nice w n d) : Nice ((w + 1) * ds.length) (n + 1) (.list ds) := by
  obtain ⟨a, b, c, e, f⟩ := nice_items h
  exact ⟨by rw [PyData.canLay0]; exact a, by rw [PyData.depth]; omega, by rw [PyData.showable]; exact c, by rw [PyData.leavesShort]; exact e, by rw [PyData.weight]; exact f⟩
theorem nice_tup {w n : Nat} {ds : List PyData} (h : ∀ d ∈ ds, Nice w n d) : Nice ((w + 1) * ds.length) (n + 1) (.tuple ds) := by
  obtain ⟨a, b, c, e, f⟩ := nice_items h
  exact ⟨by rw [PyData.canLay0]; exact a, by rw [PyData.depth]; omega, by rw [PyData.showable]; exact c, by rw [PyData.leavesShort]; exact e, by rw [PyData.weight]; exact f⟩
/-- v stands for d at H and at every heap that keeps H -/
def DpS (K : PySem.W.Frag) (H : Hp) (v : V) (d : PyData) : Prop := ∀ H', Same H H' → Dp K H' v d
theorem DpS.same {K : PySem.W.Frag} {H H' : Hp} {v : V} {d : PyData} (s : Same H H') (h : DpS K H v d) : DpS K H' v d := fun H2 s2 => h H2 (s.trans s2)
theorem dps_all {K : PySem.W.Frag} {H : Hp} {F : PyData → Prop} : ∀ {xs : List V}, (∀ x ∈ xs, ∃ d, DpS K H x d ∧ F d) → ∃ ds, (∀ H', Same H H' → DpAll K H' xs ds) ∧ ds.length = xs.length ∧ ∀ d ∈ ds, F d
  | [], _ => ⟨[], fun _ _ => .nil, rfl, fun d h => by cases h⟩
  | x :: t, h => by
    obtain ⟨d, h1, h2⟩ := h x (List.mem_cons_self ..)
    obtain ⟨ds, a, b, c⟩ := dps_all (xs := t) fun y hy => h y (List.mem_cons_of_mem _ hy)
    refine ⟨d :: ds, fun H' s => .cons (h1 H' s) (a H' s), congrArg Nat.succ b, fun z hz => ?_⟩
    rcases List.mem_cons.mp hz with e | e
    · rw [e]
      exact h2
    · exact c z e
theorem dps_seq {K : PySem.W.Frag} {H : Hp} {a : Addr} {xs : List V} {w n : Nat} (hx : Sq2 H a xs) (h : ∀ x ∈ xs, ∃ d, DpS K H x d ∧ Nice w n d) : ∃ d, DpS K H (.ref a) d ∧ Nice ((w + 1) * xs.length) (n + 1) d := by
  obtain ⟨ds, h1, h2, h3⟩ := dps_all h
  rcases hx with z | z
  · exact ⟨.list ds, fun H' s => .lst (.of (s _ _ z)) (h1 H' s), by rw [← h2]; exact nice_list h3⟩
  · exact ⟨.tuple ds, fun H' s => .tup (.of (s _ _ z)) (h1 H' s), by rw [← h2]; exact nice_tup h3⟩
theorem dps_run {K : PySem.W.Frag} {H : Hp} {v : V} {r : Run} (h : RunG H v r) (k : KindOk r.1) (c : r.2.natAbs < 10 ^ 60) : ∃ d, DpS K H v d ∧ Nice 404 1 d := by
  obtain ⟨t, rfl, h⟩ := h
  have := dps_seq (K := K) (w := 201) (n := 0) h fun x hx => by
    rcases List.mem_cons.mp hx with e | e
    · rw [e]
      exact ⟨.str r.1, fun _ _ => .str _, (nice_str k).mono (by decide) (Nat.le_refl _)⟩
    · rw [List.mem_singleton.mp e]
      exact ⟨.int r.2, fun _ _ => .int _, nice_int c⟩
  exact this
theorem dps_runs {K : PySem.W.Frag} {H : Hp} {v : V} {rs : List Run} (h : RunsG H v rs) (k : ∀ r ∈ rs, KindOk r.1 ∧ r.2.natAbs < 10 ^ 60) (l : rs.length ≤ 100) : ∃ d, DpS K H v d ∧ Nice 41000 2 d := by
  obtain ⟨a, xs, rfl, hx, hp⟩ := h
  have lx : xs.length = rs.length := Paired.len hp
  obtain ⟨d, h1, h2⟩ := dps_seq (K := K) (w := 404) (n := 1) hx fun x hx => by
    obtain ⟨i, hi, e⟩ := List.mem_iff_getElem.mp hx
    obtain ⟨r, er, hr⟩ := Paired.at hp (List.getElem?_eq_getElem hi)
    rw [e] at hr
    have := k r (List.mem_of_getElem? er)
    exact dps_run hr this.1 this.2
  exact ⟨d, h1, h2.mono (by rw [lx]; omega) (Nat.le_refl _)⟩
theorem dps_st {K : PySem.W.Frag} {H : Hp} {v : V} {st : Option Run} (h : StG H v st) (k : ∀ r, st = some r → KindOk r.1 ∧ r.2.natAbs < 10 ^ 60) : ∃ d, DpS K H v d ∧ Nice 41000 2 d := by
  cases st with
  | none =>
    cases h
    exact ⟨.none, fun _ _ => .non, nice_none.mono (by decide) (by decide)⟩
  | some r =>
    obtain ⟨d, h1, h2⟩ := dps_run (K := K) h (k r rfl).1 (k r rfl).2
    exact ⟨d, h1, h2.mono (by decide) (by decide)⟩
theorem dps_two {K : PySem.W.Frag} {H : Hp} {a : Addr} {x y : V} (h : H a = some (.lst [x, y])) (hx : ∃ d, DpS K H x d ∧ Nice 41000 2 d) (hy : ∃ d, DpS K H y d ∧ Nice 41000 2 d) : ∃ d, DpS K H (.ref a) d ∧ Nice 82002 3 d := by
  have := dps_seq (K := K) (a := a) (xs := [x, y]) (w := 41000) (n := 2) (.inl h) fun z hz => by
    rcases List.mem_cons.mp hz with e | e
    · rw [e]
      exact hx
    · rw [List.mem_singleton.mp e]
      exact hy
  exact this
/-! ### dressed and undressed -/
def dP (r : Run) : PyData := .list [.str r.1, .int r.2]
def dSq (rs : List Run) : PyData := .list (rs.map dP)
def dSt : Option Run → PyData
  | none => .none
  | some r => dP r
theorem sim_pair {N : Addr → Prop} {H : Hp} {n : Nat} (r : Run) : Paired (Sim N H n) [V.str r.1, V.int r.2] [PyData.str r.1, PyData.int r.2] := .cons (Sim.dsc (.inr (.inr (.inr ⟨_, rfl, rfl⟩)))) (.cons (Sim.dsc (.inr (.inr (.inl ⟨_, rfl, rfl⟩)))) .nil)
theorem sim_run {H : Hp} {sp : Addr} {v : V} {r : Run} {n : Nat} (z : Spr H sp) (h : RunV H v r) : Sim (· ≠ sp) H (n + 1) v (dP r) := by
  obtain ⟨t, rfl, h⟩ := h
  obtain ⟨_, _, _, hs, _⟩ := z
  exact .inr ⟨t, _, _, rfl, ne_of h hs (by intro q; cases q), .inr h, rfl, sim_pair r, Nat.le_of_ble_eq_true rfl⟩
theorem sim_seq {H : Hp} {sp a : Addr} {rs : List Run} (z : Spr H sp) (h : Runs H a rs) (l : rs.length ≤ 1000) : Sim (· ≠ sp) H 2 (.ref a) (dSq rs) := by
  have na := Runs.ne z h
  obtain ⟨xs, hx, hp⟩ := h
  refine .inr ⟨a, xs, _, rfl, na, .inl hx, rfl, ?_, by rw [List.length_map]; exact l⟩
  have gen : ∀ {xs : List V} {rs : List Run}, Paired (RunV H) xs rs → Paired (Sim (· ≠ sp) H 1) xs (rs.map dP) := by
    intro xs rs h
    induction h with
    | nil => exact .nil
    | cons h _ ih => exact .cons (sim_run z h) ih
  exact gen hp
theorem sim_st {H : Hp} {sp : Addr} {v : V} {st : Option Run} (z : Spr H sp) (h : StV H v st) : Sim (· ≠ sp) H 2 v (dSt st) := by
  cases st with
  | none =>
    cases h
    exact .inl (.inl ⟨rfl, rfl⟩)
  | some r => exact sim_run z h
theorem sim_one {N : Addr → Prop} {H : Hp} {n : Nat} {v : V} {r : Run} (h : Sim N H (n + 1) v (dP r)) : RunG H v r := by
  rcases h with h | ⟨a, xs, ds, rfl, _, hx, e, p, _⟩
  · exact (dsc_lst h).elim
  · cases e
    have scal : ∀ {m : Nat} {x : V} {s : Str}, Sim N H m x (.str s) → x = .str s := by
      intro m x s h
      have h : Dsc x (.str s) := by
        cases m with
        | zero => exact h
        | succ m =>
          rcases h with h | ⟨_, _, _, _, _, _, e, _⟩
          · exact h
          · cases e
      rcases h with ⟨_, e⟩ | ⟨_, _, e⟩ | ⟨_, _, e⟩ | ⟨y, e1, e⟩ <;> cases e
      exact e1
    have scai : ∀ {m : Nat} {x : V} {s : Int}, Sim N H m x (.int s) → x = .int s := by
      intro m x s h
      have h : Dsc x (.int s) := by
        cases m with
        | zero => exact h
        | succ m =>
          rcases h with h | ⟨_, _, _, _, _, _, e, _⟩
          · exact h
          · cases e
      rcases h with ⟨_, e⟩ | ⟨_, _, e⟩ | ⟨y, e1, e⟩ | ⟨_, _, e⟩ <;> cases e
      exact e1
    cases p with
    | cons h1 p1 =>
      cases p1 with
      | cons h2 p2 =>
        cases p2
        rw [scal h1, scai h2] at hx
        exact ⟨a, rfl, hx⟩
theorem sim_all {N : Addr → Prop} {H : Hp} : ∀ (rs : List Run) (xs : List V), Paired (Sim N H 1) xs (rs.map dP) → Paired (RunG H) xs rs
  | [], xs, h => by
    cases h
    exact .nil
  | r :: t, xs, h => by
    cases h with
    | cons h1 h2 => exact .cons (sim_one h1) (sim_all t _ h2)
theorem sim_runs {N : Addr → Prop} {H : Hp} {v : V} {rs : List Run} (h : Sim N H 2 v (dSq rs)) : RunsG H v rs := by
  rcases h with h | ⟨a, xs, ds, rfl, _, hx, e, p, _⟩
  · exact (dsc_lst h).elim
  · cases e
    refine ⟨a, xs, rfl, hx, ?_⟩
    exact sim_all rs xs p
theorem sim_stg {N : Addr → Prop} {H : Hp} {v : V} {st : Option Run} (h : Sim N H 2 v (dSt st)) : StG H v st := by
  cases st with
  | none =>
    rcases h with h | ⟨_, _, _, _, _, _, e, _⟩
    · rcases h with ⟨e, _⟩ | ⟨_, _, e⟩ | ⟨_, _, e⟩ | ⟨_, _, e⟩
      · exact e
      all_goals cases e
    · cases e
  | some r => exact sim_one h
/-! ### one by one -/
theorem at_moment {rs : List Run} {st : Option Run} {m : Nat} (h : PosO st) (k : ∀ r ∈ rs, 1 ≤ r.2) : stR (cutR 0 (m : Int) 0 rs) st = toldR (plA (w0R st) 0 ((itR rs).take m)) := by
  rw [told_plA _ _ _ (uni_w0 st), told_w0 h, st_items _ _ h cutR_pos, cut_items _ _ _ (Int.le_refl _) k, Int.sub_zero, Int.toNat_natCast]
theorem at_end {rs : List Run} {st : Option Run} (h : PosO st) (k : ∀ r ∈ rs, 1 ≤ r.2) : stR rs st = toldR (plA (w0R st) 0 (itR rs)) := by
  rw [told_plA _ _ _ (uni_w0 st), told_w0 h, st_items _ _ h k]
theorem plMs_get (ws : List Run) (ks : List Str) {n : Nat} (h : n ≤ ks.length) : (plMs ws ks)[n]? = some (plA ws 0 (ks.take n)) := by
  unfold plMs
  rw [List.getElem?_map, List.getElem?_range (by omega)]
  rfl
def dO : Option Run → PyData
  | none => .none
  | some r => dRun r
theorem dt_st {H : Hp} {v : V} {st : Option Run} {n : Nat} (h : StV H v st) : Dt H (n + 1) v (dO st) := by
  cases st with
  | none =>
    cases h
    exact .inl (.inl ⟨rfl, rfl⟩)
  | some r =>
    obtain ⟨t, rfl, h⟩ := h
    refine .inr (.inr ⟨t, _, _, rfl, h, rfl, .cons ?_ (.cons ?_ .nil), Nat.le_of_ble_eq_true rfl⟩)
    · cases n with
      | zero => exact .inr (.inr (.inr ⟨_, rfl, rfl⟩))
      | succ m => exact .inl (.inr (.inr (.inr ⟨_, rfl, rfl⟩)))
    · cases n with
      | zero => exact .inr (.inr (.inl ⟨_, rfl, rfl⟩))
      | succ m => exact .inl (.inr (.inr (.inl ⟨_, rfl, rfl⟩)))
theorem w0_len {st : Option Run} (h : ∀ r, st = some r → r.2 ≤ 1000) : (w0R st).length ≤ 1000 := by
  cases st with
  | none => exact Nat.zero_le _
  | some r =>
    have := h r rfl
    show (List.replicate r.2.toNat (r.1, (-1 : Int))).length ≤ 1000
    rw [List.length_replicate]
    omega
theorem w0_kinds {st : Option Run} (h : StOk st) : ∀ r ∈ w0R st, KindOk r.1 := by
  cases st with
  | none => intro r h; cases h
  | some x =>
    intro r hr
    rw [List.eq_of_mem_replicate hr]
    exact (h x rfl).1
theorem it_kinds {rs : List Run} (h : ∀ r ∈ rs, KindOk r.1) : ∀ k ∈ itR rs, KindOk k := by
  intro k hk
  obtain ⟨r, h1, h2⟩ := List.mem_flatMap.mp hk
  rw [List.eq_of_mem_replicate h2]
  exact h r h1
end UP

set_option Elab.async false
set_option linter.all false
set_option maxRecDepth 100000
set_option maxHeartbeats 4000000
namespace UP
open PySem PySem.Spec PyProof.Rows L2
theorem paired_snoc {α β : Type} {F : α → β → Prop} : ∀ {xs : List α} (l : List β) (y : β), Paired F xs (l ++ [y]) → ∃ xs0 x, xs = xs0 ++ [x] ∧ Paired F xs0 l ∧ F x y
  | _, [], y, h => by
    cases h with
    | cons h1 h2 =>
      cases h2
      exact ⟨[], _, rfl, .nil, h1⟩
  | _, z :: l, y, h => by
    cases h with
    | cons h1 h2 =>
      obtain ⟨xs0, x, e, h3, h4⟩ := paired_snoc l y h2
      exact ⟨_ :: xs0, x, by rw [e]; rfl, .cons h1 h3, h4⟩
theorem set_last {α : Type} : ∀ (l : List α) (x y : α), (l ++ [x]).set l.length y = l ++ [y]
  | [], _, _ => rfl
  | z :: l, x, y => congrArg (z :: ·) (set_last l x y)
theorem ixN_last {n : Nat} : ixN (n + 1) (-1) = some n := by
  unfold ixN
  simp
  omega
/-! ### one more run -/
def addR (rs : List Run) (r : Run) : List Run := match rs.getLast? with
  | none => [r]
  | some l => if l.1 = r.1 then rs.dropLast ++ [(r.1, l.2 + r.2)] else rs ++ [r]
def joinR (rs cs : List Run) : List Run := cs.foldl addR rs
theorem joinR_snoc (rs cs : List Run) (r : Run) : joinR rs (cs ++ [r]) = addR (joinR rs cs) r := by
  unfold joinR
  rw [List.foldl_append]
  rfl
theorem addR_len (rs : List Run) (r : Run) : (addR rs r).length ≤ rs.length + 1 := by
  unfold addR
  split
  · exact Nat.le_add_left _ _
  · split
    · rw [List.length_append, List.length_dropLast]
      simp only [List.length_cons, List.length_nil]
      omega
    · rw [List.length_append]
      exact Nat.le_refl _
theorem joinR_len : ∀ (cs rs : List Run), (joinR rs cs).length ≤ rs.length + cs.length
  | [], _ => Nat.le_refl _
  | c :: t, rs => by
    have h1 := joinR_len t (addR rs c)
    have h2 := addR_len rs c
    show (joinR (addR rs c) t).length ≤ _
    rw [List.length_cons]
    omega
theorem RunV.butL {H H' : Hp} {p : Addr} {xs : List V} {v : V} {r : Run} (hp : H p = some (.lst xs)) (b : But p H H') (h : RunV H v r) : RunV H' v r := by
  obtain ⟨t, e, h⟩ := h
  exact ⟨t, e, b _ _ (ne_of h hp (by intro q; cases q)) h⟩
section
variable {P : Program} {w : World} {K : PySem.W.Frag} {mg : Str → Option Value} {base : Heap}
/-! add_run: slots 0:runs 1:kind 2:count -/
abbrev s_add_run : Stmt := topS 38
theorem sc_add_run : FnScope ["runs", "kind", "count"] ["runs", "kind", "count"] (defScope s_add_run) := ⟨rfl, rfl, rfl, by decide +kernel, rfl, by decide +kernel, by decide +kernel⟩
def sp_add_run : Sp := fun vs H Q _ => ∃ (a : Addr) (rs : List Run) (r : Run), vs = [.ref a, .str r.1, .int r.2] ∧ Runs H a rs ∧ rs.length ≤ 100000 ∧ ∀ H', But a H H' → Runs H' a (addR rs r) → Q .non H'
theorem ok_add_run (D : Df K mg "add_run" s_add_run) : Has P w K mg base 1 "add_run" ["runs", "kind", "count"] sp_add_run := by
  refine has_of D sc_add_run (fun _ _ _ _ _ _ us hl => match us, hl with | [_, _, _], _ => rfl) (fun vs H Q E h => ?_) (fun f cdv A outer s₀ H vs Q E hr h => ?_)
  · obtain ⟨a, R, n, rfl, _⟩ := h
    rfl
  · obtain ⟨a, rs, r, rfl, ⟨xs, hx, hp⟩, l4, q⟩ := h
    have lx : xs.length = rs.length := Paired.len hp
    have app : ∀ (u : Addr), H u = none → (addR rs r = rs ++ [r]) → Q .non (upd (upd H u (.tup [.str r.1, .int r.2])) a (.lst (xs ++ [.ref u]))) := by
      intro u nn e
      refine q _ (fun b o nb eb => ?_) ⟨_, upd_same, ?_⟩
      · rw [upd_ne nb]
        exact same_upd nn _ _ eb
      · rw [e]
        exact Paired.app (prs_grow (same_upd nn _ _ hx) (prs_same (same_upd nn) hp)) (.cons (RunV.grow (same_upd nn _ _ hx) ⟨u, rfl, upd_same⟩) .nil)
    refine ⟨_, (pss_one (ps_if (PW.pt (pw_and (pt_truth (pv 0) (by intro _; rfl)) (pw_and1 (pt_cmpR op_eq (pe_ix ix_tup (pe_ix ix_list (pv 0) (pe_un un_neg pe_int) (fun _ _ => rfl)) pe_int (fun _ _ => rfl)) (pv 1) (nomark _))))) (pss_one (ps_asg (pe_tup (pa_cons (pv 1) (pa_cons (pe_op op_add (pe_ix ix_tup (pe_ix ix_list (pv 0) (pe_un un_neg pe_int) (fun _ _ => rfl)) pe_int (fun _ _ => rfl)) (pv 2)) pa_nil))) (pg_sub (pv 0) (pe_un un_neg pe_int) set_list))) (pss_one (ps_expr (pe_bm PySem.F.plainAttrs_list PySem.F.slot_list_append PySem.F.type_list_append mt_append (pv 0) (pa_cons (pe_tup (pa_cons (pv 1) (pa_cons (pv 2) pa_nil))) pa_nil)))))), ?_⟩
    rcases List.eq_nil_or_concat rs with e0 | ⟨R0, l, e0⟩
    · subst e0
      cases hp
      exact ⟨_, rfl, false, .inl ⟨[], .of hx, rfl⟩, iteF (iteF ⟨_, rfl, .inl ⟨rfl, _, SqL.of hx⟩, _, rfl, _, rfl, (by show 2 ≤ sizeLine; decide), fun u nn => ⟨a, _, _, rfl, rfl, same_upd nn _ _ hx, (by show 0 < sizeLine; decide), app u nn rfl⟩⟩)⟩
    · rw [List.concat_eq_append] at e0
      subst e0
      obtain ⟨ys0, y, rfl, hy0, ⟨tl, rfl, htl⟩⟩ := paired_snoc R0 l hp
      have exl : atI (ys0 ++ [V.ref tl]) (-1) = some (.ref tl) := atI_last _ _
      refine ⟨_, rfl, true, .inl ⟨_, .of hx, by cases ys0 <;> rfl⟩, iteT ⟨_, rfl, 1, rfl, a, _, -1, _, rfl, rfl, .of hx, exl, tl, _, 0, _, rfl, rfl, .of htl, at0, _, rfl, rfl, _, rfl, ite2 (fun e1 => ?_) (fun e1 => ?_)⟩⟩
      · have e1 : l.1 = r.1 := V.str.inj (of_decide_eq_true e1)
        have er : addR (R0 ++ [l]) r = R0 ++ [(r.1, l.2 + r.2)] := by
          unfold addR
          rw [List.getLast?_concat, List.dropLast_concat]
          exact if_pos e1
        refine ⟨_, rfl, _, rfl, 1, rfl, a, _, -1, _, rfl, rfl, .of hx, exl, tl, _, 1, _, rfl, rfl, .of htl, at1, _, rfl, _, _, rfl, rfl, (by show 2 ≤ sizeLine; decide), fun u nn => ⟨_, rfl, 1, rfl, a, _, -1, ys0.length, rfl, rfl, same_upd nn _ _ hx, ?_, ?_⟩⟩
        · rw [List.length_append]
          exact ixN_last
        · rw [set_last]
          refine q _ (fun b o nb eb => ?_) ⟨_, upd_same, ?_⟩
          · rw [upd_ne nb]
            exact same_upd nn _ _ eb
          · rw [er]
            exact Paired.app (prs_grow (same_upd nn _ _ hx) (prs_same (same_upd nn) hy0)) (.cons (RunV.grow (same_upd nn _ _ hx) ⟨u, rfl, upd_same⟩) .nil)
      · have e1 : ¬ l.1 = r.1 := fun z => e1 (decide_eq_true (by rw [z]))
        have er : addR (R0 ++ [l]) r = (R0 ++ [l]) ++ [r] := by
          unfold addR
          rw [List.getLast?_concat]
          exact if_neg e1
        exact ⟨_, rfl, .inl ⟨rfl, _, SqL.of hx⟩, _, rfl, _, rfl, (by show 2 ≤ sizeLine; decide), fun u nn => ⟨a, _, _, rfl, rfl, same_upd nn _ _ hx, small (by omega), app u nn er⟩⟩
/-! joined: slots 0:first 1:second 2:runs 3:kind 4:count -/
abbrev s_joined : Stmt := topS 43
theorem sc_joined : FnScope ["first", "second", "runs", "kind", "count"] ["first", "second"] (defScope s_joined) := ⟨rfl, rfl, rfl, by decide +kernel, rfl, by decide +kernel, by decide +kernel⟩
def sp_joined : Sp := fun vs H Q _ => ∃ (av bv : V) (rs cs : List Run), vs = [av, bv] ∧ RunsG H av rs ∧ SeqOk rs ∧ RunsG H bv cs ∧ SeqOk cs ∧ (joinR rs cs).length ≤ 400 ∧ (∀ r ∈ joinR rs cs, r.2 ≤ 1000000000000000000000000000000) ∧ ∀ H' p, Same H H' → H p = none → Runs H' p (joinR rs cs) → Q (.ref p) H'
theorem ok_joined (D : Df K mg "joined" s_joined) (T : Tx mg) (G_checked_runs : Has P w K mg base 5 "checked_runs" ["sequence"] sp_checked_runs) (G_add_run : Has P w K mg base 1 "add_run" ["runs", "kind", "count"] sp_add_run) :
    Has P w K mg base 6 "joined" ["first", "second"] sp_joined := by
  refine has_of D sc_joined (fun _ _ _ _ _ _ us hl => match us, hl with | [_, _], _ => rfl) (fun vs H Q E h => ?_) (fun f cdv A outer s₀ H vs Q E hr h => ?_)
  · obtain ⟨a, R, n, m, rfl, _⟩ := h
    rfl
  · obtain ⟨av, bv, rs, cs, rfl, hA, oka, hB, okb, jl, jc, q⟩ := h
    have la := oka.1
    have lb := okb.1
    refine ⟨_, (pss_cons (ps_set (i := 2) sc_joined.nd rfl (by first | exact Or.inl rfl | exact Or.inr rfl) (pe_callH G_checked_runs (hr.mono (by omega)) (by rfl) (pa_cons (pv 0) pa_nil)))
    (pss_cons (ps_for PassesOwn.never rfl (pi_list (pe_callH G_checked_runs (hr.mono (by omega)) (by rfl) (pa_cons (pv 1) pa_nil))) (pg_tup rfl (pgs_cons (pg_name (i := 3) sc_joined.nd rfl (by first | exact Or.inl rfl | exact Or.inr rfl)) (pgs_cons (pg_name (i := 4) sc_joined.nd rfl (by first | exact Or.inl rfl | exact Or.inr rfl)) pgs_nil)))
      (pss_one (ps_expr (pe_callH G_add_run (hr.mono (by omega)) (by rfl) (pa_cons (pv 2) (pa_cons (pv 3) (pa_cons (pv 4) pa_nil)))))))
    (pss_cons (ps_if (PW.pt (pw_or (pt_cmpR op_gt (pe_callB call_len_seq (by rfl) T.n_len (by decide +kernel) (pa_cons (pv 2) pa_nil)) (pe_glI T.c_MAX_RUNS (by rfl)) (nomark _)) (pw_or1 (pt_val (pe_callB (cr_any rfl) (by rfl) T.n_any (by decide +kernel) (pa_cons (pe_lc (own := [("kind", 3), ("count", 4)]) rfl sc_joined.nd (pi_list (pv 2)) (blkOk_by (N := ["first", "second", "runs", "kind", "count"]) (sc := defScope s_joined) (by decide +kernel)) (fun _ _ _ _ _ => (pg_tupK (K := K) (n := 2) rfl rfl (pgs_cons (pg_name (i := 3) sc_joined.nd rfl (by first | exact Or.inl rfl | exact Or.inr rfl)) (pgs_cons (pg_name (i := 4) sc_joined.nd rfl (by first | exact Or.inl rfl | exact Or.inr rfl)) pgs_nil)))) (fun _ _ _ _ _ => pts_nil) (fun _ _ _ _ _ => (pe_cmpR op_gt (pv 4) (pe_glI T.c_MAX_COUNT (by rfl)) (nomark _)))) pa_nil)))))) (pss_one ps_never) pss_nil)
    (pss_one (ps_ret (pv 2)))))), ?_⟩
    refine ⟨_, rfl, av, rs, rfl, hA, oka, fun H1 p s1 np hp => ?_⟩
    refine ⟨_, rfl, bv, cs, rfl, hB.same s1, okb, fun H2 p2 s2 n2 h2 => ?_⟩
    obtain ⟨xs, hx, hpr⟩ := h2
    have lx : xs.length = cs.length := Paired.len hpr
    have hp2 := hp.same s2
    have sA := s1.trans s2
    have np2 : p2 ≠ p := by
      obtain ⟨_, e, _⟩ := hp
      exact fun z => by rw [z, e] at n2; cases n2
    refine ⟨p2, rfl, ⟨xs, .of hx⟩, for_list (K := K) (a := p2) (xs := xs) (fun i σ H' => ∃ y3 y4, σ = [some av, some bv, some (.ref p), y3, y4] ∧ But p H2 H' ∧ Runs H' p (joinR rs (cs.take i)))
      ⟨none, none, rfl, fun _ _ _ e => e, hp2⟩ (fun i σ H' _ hP => ?_) (fun i x σ H4 ex hP => ?_) (fun σ H4 hP => ?_)⟩
    · obtain ⟨_, _, _, bt, _⟩ := hP
      exact .of (bt _ _ np2 hx)
    · obtain ⟨y3, y4, rfl, bt, hR⟩ := hP
      obtain ⟨r, er, hr1⟩ := Paired.at hpr ex
      obtain ⟨_, hpl, _⟩ := id hp2
      obtain ⟨t, rfl, ht⟩ := RunV.butL hpl bt hr1
      have hl := joinR_len (cs.take i) rs
      rw [List.length_take] at hl
      refine ⟨t, _, rfl, .of ht, rfl, _, _, rfl, _, _, rfl, rfl, ?_⟩
      refine ⟨_, rfl, _, rfl, _, rfl, p, _, r, rfl, hR, by omega, fun H5 b5 h5 => ⟨_, _, rfl, bt.trans b5, ?_⟩⟩
      rw [take_snoc er, joinR_snoc]
      exact h5
    · obtain ⟨y3, y4, rfl, bt, hR⟩ := hP
      rw [lx, List.take_length] at hR
      obtain ⟨zs, hz, hzp⟩ := hR
      have lz : zs.length = (joinR rs cs).length := Paired.len hzp
      have sB : Same H H4 := fun b o e => bt _ _ (ne_of_none e np) (sA _ _ e)
      refine ⟨_, rfl, p, zs, rfl, .inl (.of hz), _, _, rfl, rfl, _, rfl, iteN (decide_eq_false (by omega)) ?_⟩
      refine ⟨_, rfl, p, rfl, ⟨zs, .of hz⟩, fun L nL => lc_list (K := K) (a := p) (xs := zs) (fun i H' => Same H4 H' ∧ H' L = some (.lst ((List.replicate i false).map V.bl))) ⟨same_upd nL, upd_same⟩ (fun i H' _ p => .of (p.1 _ _ hz)) (fun i x H5 ex hP => ?_) (fun H5 hP => ?_)⟩
      · obtain ⟨sm, hL⟩ := hP
        obtain ⟨r, er, hr1⟩ := Paired.at hzp ex
        obtain ⟨t, rfl, ht⟩ := RunV.same sm hr1
        have hi : i < zs.length := (List.getElem?_eq_some_iff.mp ex).1
        have c1 := jc r (List.mem_of_getElem? er)
        refine ⟨t, _, rfl, .of ht, rfl, _, _, rfl, _, _, rfl, rfl, rfl, yesT ⟨_, rfl, _, _, rfl, rfl, _, hL, ?_, same_grow nL sm, ?_⟩⟩
        · simp only [List.length_map, List.length_replicate]
          exact small (by omega)
        · have eb : decide ((1000000000000000000000000000000 : Int) < r.2) = false := decide_eq_false (by omega)
          rw [upd_same, List.replicate_succ', List.map_append]
          show some (HO.lst (_ ++ [V.bl (decide ((1000000000000000000000000000000 : Int) < r.2))])) = _
          rw [eb]
          rfl
      · obtain ⟨s5, hL⟩ := hP
        refine ⟨L, _, rfl, .of hL, _, rfl, iteN (by simp) ?_⟩
        exact ⟨_, rfl, q H5 p (sB.trans s5) np ⟨zs, s5 _ _ hz, prs_same s5 hzp⟩⟩
end
end UP

set_option Elab.async false
set_option linter.all false
set_option maxRecDepth 100000
set_option maxHeartbeats 4000000
namespace UP
open PySem PySem.Spec PyProof.Rows L2
def runR (ks : List Str) : List Run := ks.foldl (fun rs k => addR rs (k, 1)) []
theorem runR_snoc (ks : List Str) (k : Str) : runR (ks ++ [k]) = addR (runR ks) (k, 1) := by
  unfold runR
  rw [List.foldl_append]
  rfl
theorem runR_len (ks : List Str) : (runR ks).length ≤ ks.length := by
  have gen : ∀ (ks : List Str) (rs : List Run), (ks.foldl (fun rs k => addR rs (k, 1)) rs).length ≤ rs.length + ks.length := by
    intro ks
    induction ks with
    | nil => intro rs; exact Nat.le_refl _
    | cons k t ih =>
      intro rs
      have h1 := ih (addR rs (k, 1))
      have h2 := addR_len rs (k, 1)
      show (t.foldl (fun rs k => addR rs (k, 1)) (addR rs (k, 1))).length ≤ _
      rw [List.length_cons]
      omega
  have := gen ks []
  rw [List.length_nil, Nat.zero_add] at this
  exact this
section
variable {P : Program} {w : World} {K : PySem.W.Frag} {mg : Str → Option Value} {base : Heap}
/-! runs_of: slots 0:items 1:runs 2:kind 3:item -/
abbrev s_runs_of : Stmt := topS 44
theorem sc_runs_of : FnScope ["items", "runs", "kind", "item"] ["items"] (defScope s_runs_of) := ⟨rfl, rfl, rfl, by decide +kernel, rfl, by decide +kernel, by decide +kernel⟩
def sp_runs_of : Sp := fun vs H Q _ => ∃ (a : Addr) (ks : List Str), vs = [.ref a] ∧ Sq2 H a (ks.map V.str) ∧ ks.length ≤ 400 ∧ (∀ k ∈ ks, KindOk k) ∧ ∀ H' p, Same H H' → H p = none → Runs H' p (runR ks) → Q (.ref p) H'
theorem ok_runs_of (D : Df K mg "runs_of" s_runs_of) (T : Tx mg) (G_is_listed : Has P w K mg base 1 "is_listed" ["value", "most"] sp_is_listed) (G_is_kind : Has P w K mg base 1 "is_kind" ["value"] sp_is_kind) (G_add_run : Has P w K mg base 1 "add_run" ["runs", "kind", "count"] sp_add_run) :
    Has P w K mg base 2 "runs_of" ["items"] sp_runs_of := by
  refine has_of D sc_runs_of (fun _ _ _ _ _ _ us hl => match us, hl with | [_], _ => rfl) (fun vs H Q E h => ?_) (fun f cdv A outer s₀ H vs Q E hr h => ?_)
  · obtain ⟨a, R, rfl, _⟩ := h
    rfl
  · obtain ⟨a, ks, rfl, hx, l4, ok, q⟩ := h
    have lx : (ks.map V.str).length = ks.length := List.length_map _
    refine ⟨_, (pss_cons (ps_if (PW.pt (pw_or (pt_not (pt_val (pe_callH G_is_listed (hr.mono (by omega)) (by rfl) (pa_cons (pv 0) (pa_cons (pe_glI T.c_MAX_ITEMS (by rfl)) pa_nil))))) (pw_or1 (pt_not (pt_val (pe_callB (cr_all rfl) (by rfl) T.n_all (by decide +kernel) (pa_cons (pe_lc (own := [("item", 3)]) rfl sc_runs_of.nd (pi_seqA 0) (blkOk_by (N := ["items", "runs", "kind", "item"]) (sc := defScope s_runs_of) (by decide +kernel)) (fun _ _ _ _ _ => (pg_name (i := 3) sc_runs_of.nd rfl (by first | exact Or.inl rfl | exact Or.inr rfl))) (fun _ _ _ _ _ => pts_nil) (fun _ _ _ _ _ => (pe_callH G_is_kind (hr.mono (by omega)) (by rfl) (pa_cons (pv 3) pa_nil)))) pa_nil))))))) (pss_one ps_never) pss_nil)
    (pss_cons (ps_set (i := 1) sc_runs_of.nd rfl (by first | exact Or.inl rfl | exact Or.inr rfl) (pe_lst pa_nil))
    (pss_cons (ps_for PassesOwn.never rfl (pi_seqA 0) (pg_name (i := 2) sc_runs_of.nd rfl (by first | exact Or.inl rfl | exact Or.inr rfl))
      (pss_one (ps_expr (pe_callH G_add_run (hr.mono (by omega)) (by rfl) (pa_cons (pv 1) (pa_cons (pv 2) (pa_cons pe_int pa_nil)))))))
    (pss_one (ps_ret (pv 1)))))), ?_⟩
    refine ⟨_, rfl, a, _, 400, rfl, hx, fun H1 s1 => ⟨_, rfl, iteN ?_ ?_⟩⟩
    · show (!decide (((ks.map V.str).length : Int) ≤ 400)) = false
      rw [decide_eq_true (by omega)]
      rfl
    refine ⟨a, _, rfl, hx.same s1, fun J wk L nL => lc_wka wk (fun i H' => Same H1 H' ∧ H' L = some (.lst ((List.replicate i true).map V.bl))) (fun _ _ p => (hx.same s1).eq p.1) ⟨same_upd nL, upd_same⟩ (fun i x H2 ex p => ?_) (fun H2 p => ?_)⟩
    · obtain ⟨sm, hL⟩ := p
      have hi : i < ks.length := by
        have := (List.getElem?_eq_some_iff.mp ex).1
        omega
      rw [List.getElem?_map, List.getElem?_eq_getElem hi] at ex
      cases ex
      refine ⟨rfl, yesT ⟨_, rfl, ks[i], rfl, ok _ (List.getElem_mem hi), fun H3 s3 => ⟨_, s3 _ _ hL, ?_, same_grow nL (sm.trans s3), ?_⟩⟩⟩
      · simp only [List.length_map, List.length_replicate]
        exact small (by omega)
      · rw [upd_same, List.replicate_succ', List.map_append]
        rfl
    · obtain ⟨s2, hL⟩ := p
      refine ⟨L, _, rfl, .of hL, _, rfl, iteN ?_ ?_⟩
      · rw [all_rep]
        rfl
      have sA := s1.trans s2
      refine ⟨Nat.zero_le _, fun p np => ?_⟩
      have npH : H p = none := sA.free np
      have hx3 := (hx.same sA).same (same_upd (o := .lst []) np)
      have nap : a ≠ p := by
        rcases hx.same sA with z | z
        · exact ne_of_none z np
        · exact ne_of_none z np
      refine ⟨a, _, rfl, hx3, fun J wk => for_wka wk (fun i σ H' => ∃ y2, σ = [some (.ref a), some (.ref p), y2, none] ∧ But p (upd H2 p (.lst [])) H' ∧ Runs H' p (runR (ks.take i)))
        (fun i σ H' hP => ?_) ⟨none, rfl, (fun _ _ _ e => e), [], upd_same, .nil⟩ (fun i x σ H4 ex hP => ?_) (fun σ H4 hP => ?_)⟩
      · obtain ⟨_, _, bt, _⟩ := hP
        rcases hx3 with z | z
        · exact (bt _ _ nap z).trans z.symm
        · exact (bt _ _ nap z).trans z.symm
      · obtain ⟨y2, rfl, bt, hR⟩ := hP
        have hi : i < ks.length := by
          have := (List.getElem?_eq_some_iff.mp ex).1
          omega
        rw [List.getElem?_map, List.getElem?_eq_getElem hi] at ex
        cases ex
        have hl := runR_len (ks.take i)
        rw [List.length_take] at hl
        refine ⟨_, rfl, _, rfl, p, _, (ks[i], 1), rfl, hR, by omega, fun H5 b5 h5 => ⟨_, rfl, bt.trans b5, ?_⟩⟩
        rw [take_snoc (List.getElem?_eq_getElem hi), runR_snoc]
        exact h5
      · obtain ⟨y2, rfl, bt, hR⟩ := hP
        rw [List.take_of_length_le (by omega)] at hR
        refine ⟨_, rfl, q H4 p (fun b o e => ?_) npH hR⟩
        exact bt _ _ (ne_of_none e npH) (same_upd np _ _ (sA _ _ e))
/-! checked_short_runs: slots 0:sequence 1:runs -/
abbrev s_checked_short_runs : Stmt := topS 34
theorem sc_checked_short_runs : FnScope ["sequence", "runs"] ["sequence"] (defScope s_checked_short_runs) := ⟨rfl, rfl, rfl, by decide +kernel, rfl, by decide +kernel, by decide +kernel⟩
def sp_checked_short_runs : Sp := fun vs H Q _ => ∃ (av : V) (rs : List Run), vs = [av] ∧ RunsG H av rs ∧ SeqOk rs ∧ lenR rs ≤ 400 ∧ ∀ H' p, Same H H' → H p = none → Runs H' p rs → Q (.ref p) H'
theorem ok_checked_short_runs (D : Df K mg "checked_short_runs" s_checked_short_runs) (T : Tx mg) (G_checked_runs : Has P w K mg base 5 "checked_runs" ["sequence"] sp_checked_runs) (G_length_of : Has P w K mg base 1 "length_of" ["runs"] sp_length_of) :
    Has P w K mg base 6 "checked_short_runs" ["sequence"] sp_checked_short_runs := by
  refine has_of D sc_checked_short_runs (fun _ _ _ _ _ _ us hl => match us, hl with | [_], _ => rfl) (fun vs H Q E h => ?_) (fun f cdv A outer s₀ H vs Q E hr h => ?_)
  · obtain ⟨a, R, rfl, _⟩ := h
    rfl
  · obtain ⟨av, rs, rfl, hR, ok, l4, q⟩ := h
    have lr := ok.1
    refine ⟨_, (pss_cons (ps_set (i := 1) sc_checked_short_runs.nd rfl (by first | exact Or.inl rfl | exact Or.inr rfl) (pe_callH G_checked_runs (hr.mono (by omega)) (by rfl) (pa_cons (pv 0) pa_nil)))
    (pss_cons (ps_if (pt_cmpR op_gt (pe_callH G_length_of (hr.mono (by omega)) (by rfl) (pa_cons (pv 1) pa_nil)) (pe_glI T.c_MAX_ITEMS (by rfl)) (nomark _)) (pss_one ps_never) pss_nil)
    (pss_one (ps_ret (pv 1))))), ?_⟩
    refine ⟨_, rfl, av, rs, rfl, hR, ok, fun H1 p1 s1 n1 h1 => ?_⟩
    refine ⟨_, rfl, p1, rs, rfl, h1, by omega, fun H2 s2 => ⟨_, _, rfl, rfl, _, rfl, iteN (decide_eq_false (by omega)) ?_⟩⟩
    exact ⟨_, rfl, q H2 p1 (s1.trans s2) n1 (h1.same s2)⟩
/-! items_of: slots 0:sequence 1:items 2:kind 3:count -/
abbrev s_items_of : Stmt := topS 45
theorem sc_items_of : FnScope ["sequence", "items", "kind", "count"] ["sequence"] (defScope s_items_of) := ⟨rfl, rfl, rfl, by decide +kernel, rfl, by decide +kernel, by decide +kernel⟩
def sp_items_of : Sp := fun vs H Q _ => ∃ (av : V) (rs : List Run), vs = [av] ∧ RunsG H av rs ∧ SeqOk rs ∧ lenR rs ≤ 400 ∧ ∀ H' p, Same H H' → H p = none → H' p = some (.lst ((itR rs).map V.str)) → Q (.ref p) H'
theorem ok_items_of (D : Df K mg "items_of" s_items_of) (T : Tx mg) (G_checked_short_runs : Has P w K mg base 6 "checked_short_runs" ["sequence"] sp_checked_short_runs) :
    Has P w K mg base 7 "items_of" ["sequence"] sp_items_of := by
  refine has_of D sc_items_of (fun _ _ _ _ _ _ us hl => match us, hl with | [_], _ => rfl) (fun vs H Q E h => ?_) (fun f cdv A outer s₀ H vs Q E hr h => ?_)
  · obtain ⟨a, R, rfl, _⟩ := h
    rfl
  · obtain ⟨av, rs, rfl, hR, ok, l4, q⟩ := h
    have pos := ok.pos
    have lenq := len_it rs pos
    have lr := ok.1
    refine ⟨_, (pss_cons (ps_set (i := 1) sc_items_of.nd rfl (by first | exact Or.inl rfl | exact Or.inr rfl) (pe_lst pa_nil))
    (pss_cons (ps_for PassesOwn.never rfl (pi_list (pe_callH G_checked_short_runs (hr.mono (by omega)) (by rfl) (pa_cons (pv 0) pa_nil))) (pg_tup rfl (pgs_cons (pg_name (i := 2) sc_items_of.nd rfl (by first | exact Or.inl rfl | exact Or.inr rfl)) (pgs_cons (pg_name (i := 3) sc_items_of.nd rfl (by first | exact Or.inl rfl | exact Or.inr rfl)) pgs_nil)))
      (pss_one (ps_expr (pe_bm PySem.F.plainAttrs_list PySem.F.slot_list_extend PySem.F.type_list_extend mt_extend (pv 1) (pa_cons (pe_op op_rep (pe_lst (pa_cons (pv 2) pa_nil)) (pv 3)) pa_nil)))))
    (pss_one (ps_ret (pv 1))))), ?_⟩
    refine ⟨Nat.zero_le _, fun p np => ?_⟩
    have s0 := same_upd (o := .lst []) np
    refine ⟨_, rfl, av, rs, rfl, hR.same s0, ok, l4, fun H2 p1 s1 n1 h1 => ?_⟩
    obtain ⟨xs, hx, hpr⟩ := h1
    have lx : xs.length = rs.length := Paired.len hpr
    have sA := s0.trans s1
    have np1 : p1 ≠ p := fun z => by
      rw [z, upd_same] at n1
      cases n1
    refine ⟨p1, rfl, ⟨xs, .of hx⟩, for_list (K := K) (a := p1) (xs := xs) (fun i σ H' => ∃ y3 y4, σ = [some av, some (.ref p), y3, y4] ∧ But p H2 H' ∧ H' p = some (.lst ((itR (rs.take i)).map V.str)))
      ⟨none, none, rfl, But.refl, s1 _ _ upd_same⟩ (fun i σ H' _ hP => ?_) (fun i x σ H4 ex hP => ?_) (fun σ H4 hP => ?_)⟩
    · obtain ⟨_, _, _, bt, _⟩ := hP
      exact .of (bt _ _ np1 hx)
    · obtain ⟨y3, y4, rfl, bt, hL⟩ := hP
      obtain ⟨r, er, hr1⟩ := Paired.at hpr ex
      obtain ⟨t, rfl, ht⟩ := RunV.butL (s1 _ _ upd_same) bt hr1
      have c1 := pos r (List.mem_of_getElem? er)
      have e2 : itR (rs.take (i + 1)) = itR (rs.take i) ++ List.replicate r.2.toNat r.1 := by rw [take_snoc er, itR_snoc]
      have le : ((itR (rs.take i)).length + r.2.toNat : Nat) ≤ 400 := by
        have a1 : (itR (rs.take (i + 1)) ++ itR (rs.drop (i + 1))) = itR rs := by
          unfold itR
          rw [← List.flatMap_append, List.take_append_drop]
        have a2 := congrArg List.length a1
        rw [List.length_append, e2, List.length_append, List.length_replicate] at a2
        omega
      refine ⟨t, _, rfl, .of ht, rfl, _, _, rfl, _, _, rfl, rfl, ?_⟩
      refine ⟨_, rfl, .inl ⟨rfl, _, SqL.of hL⟩, _, rfl, (by show 1 ≤ sizeLine; decide), fun l1 m1 => ?_⟩
      refine ⟨_, rfl, l1, r.2, [.str r.1], rfl, rfl, upd_same, by omega, by omega, smallE (by show 1 * r.2.toNat ≤ 1000000; omega), fun l2 m2 => ?_⟩
      rw [flat_one]
      have s5 := (same_upd (o := .lst [.str r.1]) m1).trans (same_upd (o := .lst (List.replicate r.2.toNat (.str r.1))) m2)
      refine ⟨p, l2, _, _, rfl, rfl, same_upd m2 _ _ (same_upd m1 _ _ hL), upd_same, ?_, _, _, rfl, bt.trans (fun b o n e => by rw [upd_ne n]; exact s5 _ _ e), ?_⟩
      · rw [List.length_map, List.length_replicate]
        exact smallE (by omega)
      · rw [upd_same, e2, List.map_append, List.map_replicate]
    · obtain ⟨y3, y4, rfl, bt, hL⟩ := hP
      rw [lx, List.take_length] at hL
      exact ⟨_, rfl, q H4 p (fun b o e => bt _ _ (ne_of_none e np) (sA _ _ e)) np hL⟩
end
end UP

set_option Elab.async false
set_option linter.all false
set_option maxRecDepth 100000
set_option maxHeartbeats 4000000
namespace UP
open PySem PySem.Spec PyProof.Rows L2
theorem Alt.tail {r : Run} {t : List Run} (h : Alt (r :: t)) : Alt t := fun i x y hx hy => h (i + 1) x y hx hy
theorem addR_new {rs : List Run} {r : Run} (h : ∀ l, rs.getLast? = some l → l.1 ≠ r.1) : addR rs r = rs ++ [r] := by
  unfold addR
  cases e : rs.getLast? with
  | none =>
    rw [List.getLast?_eq_none_iff.mp e]
    rfl
  | some l => exact if_neg (h l e)
theorem addR_more (R : List Run) (l r : Run) (h : l.1 = r.1) : addR (R ++ [l]) r = R ++ [(r.1, l.2 + r.2)] := by
  unfold addR
  rw [List.getLast?_concat, List.dropLast_concat]
  exact if_pos h
theorem join_alt : ∀ (cs rs : List Run), Alt cs → (∀ l c, rs.getLast? = some l → cs.head? = some c → l.1 ≠ c.1) → joinR rs cs = rs ++ cs
  | [], rs, _, _ => by
    rw [List.append_nil]
    rfl
  | c :: t, rs, a, h => by
    show joinR (addR rs c) t = rs ++ c :: t
    rw [addR_new fun l hl => h l c hl rfl, join_alt t (rs ++ [c]) a.tail (fun l d hl hd => ?_), List.append_assoc]
    · rfl
    · rw [List.getLast?_concat] at hl
      cases hl
      cases t with
      | nil => cases hd
      | cons e u =>
        cases hd
        exact a 0 _ _ rfl rfl
theorem join_more (R : List Run) (l c : Run) (t : List Run) (a : Alt (c :: t)) (h : l.1 = c.1) : joinR (R ++ [l]) (c :: t) = R ++ [(c.1, l.2 + c.2)] ++ t := by
  show joinR (addR (R ++ [l]) c) t = _
  rw [addR_more R l c h, join_alt t _ a.tail (fun l' d hl hd => ?_)]
  rw [List.getLast?_concat] at hl
  cases hl
  cases t with
  | nil => cases hd
  | cons e u =>
    cases hd
    exact a 0 c _ rfl rfl
/-! ### items and runs -/
theorem run_more : ∀ (n : Nat) (R : List Run) (k : Str) (c : Int), (List.replicate n k).foldl (fun rs k => addR rs (k, 1)) (R ++ [(k, c)]) = R ++ [(k, c + (n : Int))]
  | 0, R, k, c => by
    rw [show c + ((0 : Nat) : Int) = c by omega]
    rfl
  | n + 1, R, k, c => by
    show (List.replicate n k).foldl (fun rs k => addR rs (k, 1)) (addR (R ++ [(k, c)]) (k, 1)) = _
    rw [addR_more R (k, c) (k, 1) rfl, run_more n R k (c + 1), show c + 1 + (n : Int) = c + ((n + 1 : Nat) : Int) by omega]
theorem run_one (n : Nat) (rs : List Run) (k : Str) (h : ∀ l, rs.getLast? = some l → l.1 ≠ k) : (List.replicate (n + 1) k).foldl (fun rs k => addR rs (k, 1)) rs = rs ++ [(k, (n : Int) + 1)] := by
  show (List.replicate n k).foldl (fun rs k => addR rs (k, 1)) (addR rs (k, 1)) = _
  rw [addR_new (r := (k, 1)) h, run_more n rs k 1, show (1 : Int) + (n : Int) = (n : Int) + 1 by omega]
theorem run_items : ∀ (rs R : List Run), Alt rs → (∀ r ∈ rs, 1 ≤ r.2) → (∀ l c, R.getLast? = some l → rs.head? = some c → l.1 ≠ c.1) → (itR rs).foldl (fun rs k => addR rs (k, 1)) R = R ++ rs
  | [], R, _, _, _ => by
    rw [List.append_nil]
    rfl
  | r :: t, R, a, p, h => by
    have c1 := p r (List.mem_cons_self ..)
    obtain ⟨n, hn⟩ : ∃ n : Nat, r.2.toNat = n + 1 := ⟨r.2.toNat - 1, by omega⟩
    have e : itR (r :: t) = List.replicate r.2.toNat r.1 ++ itR t := rfl
    rw [e, List.foldl_append, hn, run_one n R r.1 (fun l hl => h l r hl rfl), show (n : Int) + 1 = r.2 by omega, run_items t (R ++ [(r.1, r.2)]) a.tail (fun x hx => p x (List.mem_cons_of_mem _ hx)) (fun l d hl hd => ?_), List.append_assoc]
    · rfl
    · rw [List.getLast?_concat] at hl
      cases hl
      cases t with
      | nil => cases hd
      | cons e u =>
        cases hd
        exact a 0 _ _ rfl rfl
theorem run_it {rs : List Run} (a : Alt rs) (p : ∀ r ∈ rs, 1 ≤ r.2) : runR (itR rs) = rs := by
  have := run_items rs [] a p (fun l c hl => by cases hl)
  rw [List.nil_append] at this
  exact this
theorem it_one (k : Str) (c : Int) : itR [(k, c)] = List.replicate c.toNat k := by
  show List.replicate c.toNat k ++ [] = _
  rw [List.append_nil]
theorem it_add (rs : List Run) (k : Str) (p : ∀ r ∈ rs, 1 ≤ r.2) : itR (addR rs (k, 1)) = itR rs ++ [k] := by
  rcases List.eq_nil_or_concat rs with e0 | ⟨R0, l, e0⟩
  · subst e0
    rfl
  · rw [List.concat_eq_append] at e0
    subst e0
    have c1 := p l (List.mem_append.mpr (.inr (List.mem_singleton.mpr rfl)))
    by_cases h : l.1 = k
    · rw [addR_more R0 l (k, 1) h, it_app, it_app, List.append_assoc, it_one]
      congr 1
      have e : itR [l] = List.replicate l.2.toNat l.1 := it_one l.1 l.2
      show List.replicate (l.2 + 1).toNat k = itR [l] ++ [k]
      rw [e, h, show (l.2 + 1).toNat = l.2.toNat + 1 by omega, List.replicate_succ']
    · rw [addR_new (fun l' hl => by rw [List.getLast?_concat] at hl; cases hl; exact h), it_app]
      rfl
/-- what holds of the runs of some kinds -/
structure RunsOf (rs : List Run) (ks : List Str) : Prop where
  it : itR rs = ks
  pos : ∀ r ∈ rs, 1 ≤ r.2
  mem : ∀ r ∈ rs, r.1 ∈ ks
  alt : Alt rs
theorem runs_snoc {rs : List Run} {ks : List Str} {k : Str} (h : RunsOf rs ks) : RunsOf (addR rs (k, 1)) (ks ++ [k]) := by
  obtain ⟨i, p, m, a⟩ := h
  refine ⟨by rw [it_add rs k p, i], ?_, ?_, ?_⟩
  all_goals
    rcases List.eq_nil_or_concat rs with e0 | ⟨R0, l, e0⟩
  · subst e0
    intro r hr
    rw [List.mem_singleton.mp (show r ∈ [(k, (1 : Int))] from hr)]
    exact Int.le_refl 1
  · rw [List.concat_eq_append] at e0
    subst e0
    have c1 := p l (List.mem_append.mpr (.inr (List.mem_singleton.mpr rfl)))
    intro r hr
    by_cases h : l.1 = k
    · rw [addR_more R0 l (k, 1) h] at hr
      rcases List.mem_append.mp hr with z | z
      · exact p r (List.mem_append.mpr (.inl z))
      · rw [List.mem_singleton.mp z]
        show 1 ≤ l.2 + 1
        omega
    · rw [addR_new (fun l' hl => by rw [List.getLast?_concat] at hl; cases hl; exact h)] at hr
      rcases List.mem_append.mp hr with z | z
      · exact p r z
      · rw [List.mem_singleton.mp z]
        exact Int.le_refl 1
  · subst e0
    intro r hr
    rw [List.mem_singleton.mp (show r ∈ [(k, (1 : Int))] from hr)]
    exact List.mem_append.mpr (.inr (List.mem_singleton.mpr rfl))
  · rw [List.concat_eq_append] at e0
    subst e0
    intro r hr
    by_cases h : l.1 = k
    · rw [addR_more R0 l (k, 1) h] at hr
      rcases List.mem_append.mp hr with z | z
      · exact List.mem_append.mpr (.inl (m r (List.mem_append.mpr (.inl z))))
      · rw [List.mem_singleton.mp z]
        exact List.mem_append.mpr (.inr (List.mem_singleton.mpr rfl))
    · rw [addR_new (fun l' hl => by rw [List.getLast?_concat] at hl; cases hl; exact h)] at hr
      rcases List.mem_append.mp hr with z | z
      · exact List.mem_append.mpr (.inl (m r z))
      · rw [List.mem_singleton.mp z]
        exact List.mem_append.mpr (.inr (List.mem_singleton.mpr rfl))
  · subst e0
    intro i x y hx hy
    cases hy
  · rw [List.concat_eq_append] at e0
    subst e0
    by_cases h : l.1 = k
    · rw [addR_more R0 l (k, 1) h]
      have e : (R0 ++ [((k, (1 : Int)).1, l.2 + (k, (1 : Int)).2)]).map (·.1) = (R0 ++ [l]).map (·.1) := by
        rw [List.map_append, List.map_append]
        show R0.map (·.1) ++ [k] = R0.map (·.1) ++ [l.1]
        rw [h]
      intro i x y hx hy
      have ex := congrArg (fun z : List Str => z[i]?) e
      have ey := congrArg (fun z : List Str => z[i + 1]?) e
      simp only [List.getElem?_map] at ex ey
      rw [hx] at ex
      rw [hy] at ey
      cases gx : (R0 ++ [l])[i]? with
      | none => rw [gx] at ex; cases ex
      | some x' =>
        cases gy : (R0 ++ [l])[i + 1]? with
        | none => rw [gy] at ey; cases ey
        | some y' =>
          rw [gx] at ex
          rw [gy] at ey
          have ex : x.1 = x'.1 := Option.some.inj ex
          have ey : y.1 = y'.1 := Option.some.inj ey
          rw [ex, ey]
          exact a i x' y' gx gy
    · rw [addR_new (fun l' hl => by rw [List.getLast?_concat] at hl; cases hl; exact h)]
      refine alt_snoc a fun y hy => ?_
      rw [← List.getLast?_eq_getElem?, List.getLast?_concat] at hy
      cases hy
      exact h
theorem runs_of_all : ∀ (ks l : List Str) (R : List Run), RunsOf R l → RunsOf (ks.foldl (fun rs k => addR rs (k, 1)) R) (l ++ ks)
  | [], l, R, h => by
    rw [List.append_nil]
    exact h
  | k :: t, l, R, h => by
    have := runs_of_all t (l ++ [k]) _ (runs_snoc (k := k) h)
    rw [List.append_assoc] at this
    exact this
theorem runs_all (ks : List Str) : RunsOf (runR ks) ks := runs_of_all ks [] [] ⟨rfl, (fun r h => by cases h), (fun r h => by cases h), fun i x y hx => by simp at hx⟩
theorem len_mem {rs : List Run} (p : ∀ r ∈ rs, 1 ≤ r.2) : ∀ r ∈ rs, r.2 ≤ lenR rs := by
  induction rs with
  | nil => intro r h; cases h
  | cons x t ih =>
    intro r hr
    have c1 := p x (List.mem_cons_self ..)
    have ih' := ih fun y hy => p y (List.mem_cons_of_mem _ hy)
    rw [lenR_cons]
    have nn : 0 ≤ lenR t := by
      have := len_it t fun y hy => p y (List.mem_cons_of_mem _ hy)
      omega
    rcases List.mem_cons.mp hr with e | e
    · rw [e]
      omega
    · have := ih' r e
      omega
theorem seq_runs {ks : List Str} (l : ks.length ≤ 400) (ok : ∀ k ∈ ks, KindOk k) : SeqOk (runR ks) ∧ lenR (runR ks) ≤ 400 ∧ itR (runR ks) = ks := by
  obtain ⟨i, p, m, a⟩ := runs_all ks
  have ll := len_it (runR ks) p
  rw [i] at ll
  refine ⟨⟨?_, fun r hr => ⟨ok _ (m r hr), p r hr, ?_⟩, a⟩, by omega, i⟩
  · exact Nat.le_trans (runR_len ks) l
  · have := len_mem p r hr
    omega
end UP

set_option Elab.async false
set_option linter.all false
set_option maxRecDepth 100000
set_option maxHeartbeats 4000000
namespace UP
open PySem PySem.Spec PyProof.Rows L2 L2.DX
/-! ### kinds counted -/
structure CT (ks : List Run) (its : List Str) : Prop where
  nd : (ks.map (·.1)).Nodup
  val : ∀ e ∈ ks, e.2 = ((its.count e.1 : Nat) : Int)
  cov : ∀ k, k ∈ its ↔ k ∈ ks.map (·.1)
  sum : (ks.map (·.2)).sum = (its.length : Int)
theorem CT.nil : CT [] [] := ⟨List.nodup_nil, (fun e h => by cases h), (fun k => Iff.rfl), rfl⟩
theorem sum_perm {l m : List Run} (h : l.Perm m) : (l.map (·.2)).sum = (m.map (·.2)).sum := by
  induction h with
  | nil => rfl
  | cons x _ ih => rw [List.map_cons, List.map_cons, List.sum_cons, List.sum_cons, ih]
  | swap x y l =>
    simp only [List.map_cons, List.sum_cons]
    omega
  | trans _ _ h1 h2 => exact h1.trans h2
theorem CT.perm {l m : List Run} {its : List Str} (h : l.Perm m) (c : CT m its) : CT l its :=
  ⟨(h.map _).symm.nodup c.nd, fun e he => c.val e (h.mem_iff.mp he), fun k => (c.cov k).trans (h.map _).mem_iff.symm, (sum_perm h).trans c.sum⟩
theorem val_ent {ks : List Run} {k : Str} : valV (ks.map entK) (Sum.inr k) = (ks.find? fun e => decide (e.1 = k)).map fun e => V.int e.2 := by
  induction ks with
  | nil => rfl
  | cons e t ih =>
    rw [List.map_cons]
    by_cases c : e.1 = k
    · have e1 : List.find? (fun e : Run => decide (e.1 = k)) (e :: t) = some e := by
        rw [List.find?_cons, show (decide (e.1 = k)) = true from decide_eq_true c]
      rw [valV_pos (p := entK e) (by show (Sum.inr e.1 : L2.Key) = _; rw [c]), e1]
      rfl
    · have e1 : List.find? (fun e : Run => decide (e.1 = k)) (e :: t) = List.find? (fun e : Run => decide (e.1 = k)) t := by
        rw [List.find?_cons, show (decide (e.1 = k)) = false from decide_eq_false c]
      rw [valV_neg (p := entK e) (fun z => c (Sum.inr.inj z)), e1]
      exact ih
/-- what a dict of counts says of a kind -/
theorem CT.get {ks : List Run} {its : List Str} (c : CT ks its) (k : Str) : (valV (ks.map entK) (Sum.inr k)).getD (.int 0) = .int ((its.count k : Nat) : Int) := by
  rw [val_ent]
  cases h : ks.find? fun e => decide (e.1 = k) with
  | none =>
    have no : k ∉ its := fun hk => by
      obtain ⟨e, he, ek⟩ := List.mem_map.mp ((c.cov k).mp hk)
      have := List.find?_eq_none.mp h e he
      exact this (decide_eq_true ek)
    rw [List.count_eq_zero_of_not_mem no]
    rfl
  | some e =>
    have e0 := List.find?_some (p := fun e : Run => decide (e.1 = k)) h
    have e1 : e.1 = k := of_decide_eq_true e0
    have e2 := c.val e (List.mem_of_find?_eq_some h)
    rw [e1] at e2
    show V.int e.2 = _
    rw [e2]
theorem key_map {ks : List Run} {k : Str} {n : Int} : (ks.map entK).map (fun kv => if kv.1 = (Sum.inr k : L2.Key) then (kv.1, V.int n) else kv) = (ks.map fun e => if e.1 = k then (e.1, n) else e).map entK := by
  rw [List.map_map, List.map_map]
  refine List.map_congr_left fun e _ => ?_
  show (if (Sum.inr e.1 : L2.Key) = Sum.inr k then _ else _) = entK (if e.1 = k then (e.1, n) else e)
  by_cases c : e.1 = k
  · rw [if_pos (by rw [c]), if_pos c]
  · rw [if_neg (fun z => c (Sum.inr.inj z)), if_neg c]
theorem sum_set {ks : List Run} {k : Str} {n : Int} {e0 : Run} (nd : (ks.map (·.1)).Nodup) (h : e0 ∈ ks) (e : e0.1 = k) : ((ks.map fun e => if e.1 = k then (e.1, n) else e).map (·.2)).sum = (ks.map (·.2)).sum - e0.2 + n := by
  induction ks with
  | nil => cases h
  | cons x t ih =>
    have nd := List.nodup_cons.mp (show (x.1 :: t.map (·.1)).Nodup from nd)
    simp only [List.map_cons, List.sum_cons]
    by_cases c : x.1 = k
    · have ex : x = e0 := by
        rcases List.mem_cons.mp h with z | z
        · exact z.symm
        · exact absurd (List.mem_map.mpr ⟨e0, z, by rw [e, c]⟩) nd.1
      have keep : (t.map fun e => if e.1 = k then (e.1, n) else e) = t := by
        refine (List.map_congr_left fun y hy => ?_).trans (List.map_id _)
        have : ¬ y.1 = k := fun z => nd.1 (List.mem_map.mpr ⟨y, hy, by rw [z, c]⟩)
        rw [if_neg this]
        rfl
      have e9 : (t.map fun e => if e.1 = k then (e.1, n) else e).map (·.2) = t.map (·.2) := by rw [keep]
      rw [if_pos c, ex]
      show n + ((t.map fun e => if e.1 = k then (e.1, n) else e).map (·.2)).sum = e0.2 + (t.map (·.2)).sum - e0.2 + n
      rw [e9]
      omega
    · have h' : e0 ∈ t := by
        rcases List.mem_cons.mp h with z | z
        · rw [z] at e
          exact absurd e c
        · exact z
      have := ih nd.2 h'
      rw [if_neg c, this]
      omega
theorem CT.put {ks : List Run} {its : List Str} (c : CT ks its) (k : Str) (n : Nat) (hn : 1 ≤ n) : ∃ ks', putK (ks.map entK) (Sum.inr k) (.int (((its.count k : Nat) : Int) + (n : Int))) = ks'.map entK ∧ CT ks' (its ++ List.replicate n k) ∧ ks'.length ≤ ks.length + 1 := by
  have cnt : ∀ j : Str, (its ++ List.replicate n k).count j = its.count j + if j = k then n else 0 := by
    intro j
    rw [List.count_append, List.count_replicate]
    congr 1
    by_cases e : j = k
    · rw [if_pos e, if_pos (by rw [e]; exact beq_self_eq_true k)]
    · rw [if_neg e, if_neg (fun z => e (eq_of_beq z).symm)]
  have mem : ∀ j : Str, j ∈ its ++ List.replicate n k ↔ j ∈ its ∨ j = k := by
    intro j
    rw [List.mem_append, List.mem_replicate]
    exact ⟨fun h => h.elim .inl fun z => .inr z.2, fun h => h.elim .inl fun z => .inr ⟨by omega, z⟩⟩
  by_cases hk : k ∈ its
  · have hk' := (c.cov k).mp hk
    obtain ⟨e0, he0, ek⟩ := List.mem_map.mp hk'
    have any : ((ks.map entK).any fun kv => decide (kv.1 = (Sum.inr k : L2.Key))) = true := by
      rw [List.any_eq_true]
      exact ⟨entK e0, List.mem_map.mpr ⟨e0, he0, rfl⟩, decide_eq_true (by show (Sum.inr e0.1 : L2.Key) = _; rw [ek])⟩
    have keys : (ks.map fun e => if e.1 = k then (e.1, ((its.count k : Nat) : Int) + (n : Int)) else e).map (·.1) = ks.map (·.1) := by
      rw [List.map_map]
      refine List.map_congr_left fun e _ => ?_
      show (if e.1 = k then (e.1, ((its.count k : Nat) : Int) + (n : Int)) else e).1 = e.1
      split <;> rfl
    refine ⟨ks.map fun e => if e.1 = k then (e.1, ((its.count k : Nat) : Int) + (n : Int)) else e, ?_, ⟨by rw [keys]; exact c.nd, fun e he => ?_, fun j => ?_, ?_⟩, by rw [List.length_map]; omega⟩
    · unfold putK
      rw [if_pos any, key_map]
    · obtain ⟨x, hx, ex⟩ := List.mem_map.mp he
      rw [← ex, cnt]
      by_cases d : x.1 = k
      · rw [if_pos d]
        show ((its.count k : Nat) : Int) + (n : Int) = ((its.count x.1 + if x.1 = k then n else 0 : Nat) : Int)
        rw [if_pos d, d]
        omega
      · rw [if_neg d, if_neg d]
        exact c.val x hx
    · rw [keys, mem, c.cov j]
      exact ⟨fun h => h.elim id fun z => by rw [z]; exact hk', .inl⟩
    · rw [sum_set c.nd he0 ek, c.sum, c.val e0 he0, ek, List.length_append, List.length_replicate]
      omega
  · have hk' : k ∉ ks.map (·.1) := fun z => hk ((c.cov k).mpr z)
    have any : ¬ ((ks.map entK).any fun kv => decide (kv.1 = (Sum.inr k : L2.Key))) = true := by
      rw [List.any_eq_true]
      rintro ⟨kv, h1, h2⟩
      obtain ⟨e, he, ee⟩ := List.mem_map.mp h1
      have := of_decide_eq_true h2
      rw [← ee] at this
      exact hk' (List.mem_map.mpr ⟨e, he, Sum.inr.inj this⟩)
    have z0 : its.count k = 0 := List.count_eq_zero_of_not_mem hk
    refine ⟨ks ++ [(k, ((its.count k : Nat) : Int) + (n : Int))], ?_, ⟨?_, fun e he => ?_, fun j => ?_, ?_⟩, by rw [List.length_append]; exact Nat.le_refl _⟩
    · unfold putK
      rw [if_neg any, List.map_append]
      rfl
    · rw [List.map_append]
      refine List.nodup_append.mpr ⟨c.nd, List.nodup_cons.mpr ⟨by simp, List.nodup_nil⟩, fun a ha b hb => ?_⟩
      rw [List.mem_singleton.mp hb]
      intro z
      rw [z] at ha
      exact hk' ha
    · rw [cnt]
      rcases List.mem_append.mp he with z | z
      · have ne : e.1 ≠ k := fun w => hk' (List.mem_map.mpr ⟨e, z, w⟩)
        rw [if_neg ne]
        exact c.val e z
      · rw [List.mem_singleton.mp z]
        show ((its.count k : Nat) : Int) + (n : Int) = ((its.count k + if k = k then n else 0 : Nat) : Int)
        rw [if_pos rfl]
        omega
    · rw [mem, List.map_append, List.mem_append, c.cov j]
      show _ ∨ _ ↔ _ ∨ j ∈ [k]
      rw [List.mem_singleton]
    · rw [List.map_append, List.sum_append, c.sum, List.length_append, List.length_replicate, z0]
      show _ + ((((0 : Nat) : Int) + (n : Int)) + 0) = _
      omega
/-! ### sorted counts are unique -/
theorem Same.butB {H H1 H' : Hp} {D : Addr} (n : H D = none) (s : Same H H1) (b : But D H1 H') : Same H H' := fun a o e => b _ _ (ne_of_none e n) (s _ _ e)
def ltR (x y : Run) : Prop := x.1.cps.toList < y.1.cps.toList
theorem uniq_sorted : ∀ {l m : List Run}, l.Pairwise ltR → m.Pairwise ltR → (∀ x, x ∈ l ↔ x ∈ m) → l = m
  | [], [], _, _, _ => rfl
  | [], b :: m, _, _, h => absurd ((h b).mpr (List.mem_cons_self ..)) (by simp)
  | a :: l, [], _, _, h => absurd ((h a).mp (List.mem_cons_self ..)) (by simp)
  | a :: l, b :: m, hl, hm, h => by
    have hl := List.pairwise_cons.mp hl
    have hm := List.pairwise_cons.mp hm
    have e : a = b := by
      rcases List.mem_cons.mp ((h a).mp (List.mem_cons_self ..)) with z | z
      · exact z
      · rcases List.mem_cons.mp ((h b).mpr (List.mem_cons_self ..)) with w | w
        · exact w.symm
        · exact absurd (hl.1 b w) (List.lt_asymm (hm.1 a z))
    subst e
    congr 1
    refine uniq_sorted hl.2 hm.2 fun x => ⟨fun hx => ?_, fun hx => ?_⟩
    · rcases List.mem_cons.mp ((h x).mp (List.mem_cons_of_mem _ hx)) with z | z
      · rw [z] at hx
        exact absurd (hl.1 a hx) (List.lt_irrefl _)
      · exact z
    · rcases List.mem_cons.mp ((h x).mpr (List.mem_cons_of_mem _ hx)) with z | z
      · rw [z] at hx
        exact absurd (hm.1 a hx) (List.lt_irrefl _)
      · exact z
theorem lt_of_not {x y : Str} (n : x ≠ y) (h : ¬ y.cps.toList < x.cps.toList) : x.cps.toList < y.cps.toList := by
  by_cases c : x.cps.toList < y.cps.toList
  · exact c
  · exact absurd (UPS.str_of (List.le_antisymm h c)) n
theorem CT.strict {ks : List Run} {its : List Str} (c : CT ks its) (s : ks.Pairwise fun x y => UPS.lexS y x = false) : ks.Pairwise ltR := by
  have nd : ks.Pairwise fun x y => x.1 ≠ y.1 := List.pairwise_map.mp c.nd
  refine (List.Pairwise.and nd s).imp fun {x y} h => ?_
  exact lt_of_not h.1 ((UPS.lexS_no.mp h.2).2 fun z => h.1 z.symm)
theorem CT.eq {ks ls : List Run} {its : List Str} (c : CT ks its) (d : CT ls its) (s : ks.Pairwise fun x y => UPS.lexS y x = false) (t : ls.Pairwise fun x y => UPS.lexS y x = false) : ks = ls := by
  have sub : ∀ {a b : List Run}, CT a its → CT b its → ∀ x ∈ a, x ∈ b := by
    intro a b ca cb x hx
    have hk := (ca.cov x.1).mpr (List.mem_map.mpr ⟨x, hx, rfl⟩)
    obtain ⟨e, he, ee⟩ := List.mem_map.mp ((cb.cov x.1).mp hk)
    have : e = x := Prod.ext ee (by rw [cb.val e he, ca.val x hx, ee])
    rw [← this]
    exact he
  exact uniq_sorted (c.strict s) (d.strict t) fun x => ⟨sub c d x, sub d c x⟩
section
variable {P : Program} {w : World} {K : PySem.W.Frag} {mg : Str → Option Value} {base : Heap}
/-! total_length: slots 0:sequence -/
abbrev s_total_length : Stmt := topS 39
theorem sc_total_length : FnScope ["sequence"] ["sequence"] (defScope s_total_length) := ⟨rfl, rfl, rfl, by decide +kernel, rfl, by decide +kernel, by decide +kernel⟩
def sp_total_length : Sp := fun vs H Q _ => ∃ (av : V) (rs : List Run), vs = [av] ∧ RunsG H av rs ∧ SeqOk rs ∧ ∀ H', Same H H' → Q (.int (lenR rs)) H'
theorem ok_total_length (D : Df K mg "total_length" s_total_length) (G_checked_runs : Has P w K mg base 5 "checked_runs" ["sequence"] sp_checked_runs) (G_length_of : Has P w K mg base 1 "length_of" ["runs"] sp_length_of) : Has P w K mg base 6 "total_length" ["sequence"] sp_total_length := by
  refine has_of D sc_total_length (fun _ _ _ _ _ _ us hl => match us, hl with | [_], _ => rfl) (fun vs H Q E h => ?_) (fun f cdv A outer s₀ H vs Q E hr h => ?_)
  · obtain ⟨a, R, rfl, _⟩ := h
    rfl
  · obtain ⟨av, rs, rfl, hR, ok, q⟩ := h
    refine ⟨_, (pss_one (ps_ret (pe_callH G_length_of (hr.mono (by omega)) (by rfl) (pa_cons (pe_callH G_checked_runs (hr.mono (by omega)) (by rfl) (pa_cons (pv 0) pa_nil)) pa_nil)))), ?_⟩
    exact ⟨_, rfl, av, rs, rfl, hR, ok, fun H1 p s1 np hp => ⟨p, rs, rfl, hp, by have := ok.1; omega, fun H2 s2 => q _ (s1.trans s2)⟩⟩
/-! counts_of: slots 0:sequence 1:totals 2:kind 3:count -/
abbrev s_counts_of : Stmt := topS 40
theorem sc_counts_of : FnScope ["sequence", "totals", "kind", "count"] ["sequence"] (defScope s_counts_of) := ⟨rfl, rfl, rfl, by decide +kernel, rfl, by decide +kernel, by decide +kernel⟩
def sp_counts_of : Sp := fun vs H Q _ => ∃ (av : V) (rs : List Run), vs = [av] ∧ RunsG H av rs ∧ SeqOk rs ∧ ∀ H' p out, Same H H' → H p = none → Runs H' p out → CT out (itR rs) → out.Pairwise (fun x y => UPS.lexS y x = false) → out.length ≤ rs.length → Q (.ref p) H'
theorem ok_counts_of (D : Df K mg "counts_of" s_counts_of) (T : Tx mg) (G_checked_runs : Has P w K mg base 5 "checked_runs" ["sequence"] sp_checked_runs) : Has P w K mg base 6 "counts_of" ["sequence"] sp_counts_of := by
  refine has_of D sc_counts_of (fun _ _ _ _ _ _ us hl => match us, hl with | [_], _ => rfl) (fun vs H Q E h => ?_) (fun f cdv A outer s₀ H vs Q E hr h => ?_)
  · obtain ⟨a, R, rfl, _⟩ := h
    rfl
  · obtain ⟨av, rs, rfl, hR, ok, q⟩ := h
    have l4 := ok.1
    refine ⟨_, (pss_cons (ps_set (i := 1) sc_counts_of.nd rfl (by first | exact Or.inl rfl | exact Or.inr rfl) pe_dnewK)
    (pss_cons (ps_for PassesOwn.never rfl (pi_list (pe_callH G_checked_runs (hr.mono (by omega)) (by rfl) (pa_cons (pv 0) pa_nil))) (pg_tup rfl (pgs_cons (pg_name (i := 2) sc_counts_of.nd rfl (by first | exact Or.inl rfl | exact Or.inr rfl)) (pgs_cons (pg_name (i := 3) sc_counts_of.nd rfl (by first | exact Or.inl rfl | exact Or.inr rfl)) pgs_nil)))
      (pss_one (ps_dput (hu_of hr) (pv 1) (pv 2) (pe_op op_add (pe_dget2 (hu_of hr) (pv 1) (pv 2) pe_int ⟨by rfl, by rfl, by rfl, by rfl⟩) (pv 3)) rfl)))
    (pss_one (ps_ret (pe_callB cr_sortedR (by rfl) T.n_sorted (by decide +kernel) (pa_cons (LiI.pe_listItems (by rfl) (pv 1) (by rfl) T.n_list (by decide +kernel)) pa_nil)))))), ?_⟩
    refine fun d nd => ⟨_, rfl, av, rs, rfl, hR.same (same_upd nd), ok, fun H1 p s1 np hp => ?_⟩
    obtain ⟨xs, hx, hpr⟩ := hp
    have lx : xs.length = rs.length := Paired.len hpr
    have sd := same_upd (o := .dK []) nd
    have hd1 : H1 d = some (.dK []) := s1 _ _ upd_same
    have pd : p ≠ d := fun z => by rw [z, hd1] at hx; cases hx
    refine ⟨p, rfl, ⟨xs, .of hx⟩, for_list (K := K) (a := p) (xs := xs) (fun i σ H' => ∃ y2 y3 ks, σ = [some av, some (.ref d), y2, y3] ∧ But d H1 H' ∧ H' d = some (.dK (ks.map entK)) ∧ CT ks (itR (rs.take i)) ∧ ks.length ≤ i) ⟨none, none, [], rfl, But.refl, hd1, CT.nil, Nat.le_refl _⟩ (fun i σ H' _ hP => ?_) (fun i x σ H2 ex hP => ?_) (fun σ H2 hP => ?_)⟩
    · obtain ⟨_, _, _, _, bt, _⟩ := hP
      exact .of (bt _ _ pd hx)
    · obtain ⟨y2, y3, ks, rfl, bt, hd, ct, lk⟩ := hP
      obtain ⟨r, er, ⟨t, rfl, ht⟩⟩ := Paired.at hpr ex
      have ht2 := bt _ _ (ne_of ht hd1 (by intro z; cases z)) ht
      have hi : i < xs.length := (List.getElem?_eq_some_iff.mp ex).1
      have c1 := (ok.2.1 r (List.mem_of_getElem? er)).2.1
      refine ⟨t, _, rfl, .of ht2, rfl, _, _, rfl, _, _, rfl, rfl, ?_⟩
      refine ⟨_, rfl, d, rfl, .inl ⟨_, .inl hd⟩, _, rfl, _, DGet.k (k := Sum.inr r.1) hd, ?_⟩
      rw [ct.get]
      obtain ⟨ks', e1, ct', l'⟩ := ct.put r.1 r.2.toNat (by omega)
      rw [show ((r.2.toNat : Nat) : Int) = r.2 by omega] at e1
      refine ⟨_, rfl, _, _, rfl, rfl, _, rfl, _, rfl, d, _, rfl, DPut.k (k := Sum.inr r.1) hd (by rw [List.length_map]; exact small (by omega)), ?_⟩
      refine ⟨_, _, ks', rfl, bt.trans but_upd, ?_, ?_, by omega⟩
      · rw [upd_same]
        exact congrArg (fun z => some (HO.dK z)) e1
      · rw [take_snoc er, itR_snoc]
        exact ct'
    · obtain ⟨y2, y3, ks, rfl, bt, hd, ct, lk⟩ := hP
      rw [lx, List.take_length] at ct
      have sA : Same H H2 := Same.butB nd (sd.trans s1) bt
      refine ⟨_, rfl, d, _, rfl, hd, fun H3 l ts k1 k2 _ _ k5 k6 => ?_⟩
      have s3 : Same H2 H3 := k1
      have rn : Runs H3 l ks := ⟨_, k5, ?_⟩
      · refine ⟨l, ks, rfl, rn, fun H4 l4 out s4 n4 hl pm so => q H4 l4 out (sA.trans (s3.trans s4)) ((sA.trans s3).free n4) hl (ct.perm pm) so ?_⟩
        rw [pm.length_eq]
        omega
      · have g : ∀ {as : List Addr} {es : List Run}, Paired (fun (t : Addr) (q : L2.Key × V) => H3 t = some (.tup [kV q.1, q.2])) as (es.map entK) → Paired (RunV H3) (as.map V.ref) es := by
          intro as es h
          induction es generalizing as with
          | nil => cases h; exact .nil
          | cons e u ih =>
            cases h with
            | cons h1 h2 => exact .cons ⟨_, rfl, h1⟩ (ih h2)
        exact g k6
/-! kind_at: slots 0:sequence 1:position 2:runs -/
abbrev s_kind_at : Stmt := topS 41
theorem sc_kind_at : FnScope ["sequence", "position", "runs"] ["sequence", "position"] (defScope s_kind_at) := ⟨rfl, rfl, rfl, by decide +kernel, rfl, by decide +kernel, by decide +kernel⟩
def sp_kind_at : Sp := fun vs H Q _ => ∃ (av : V) (rs : List Run) (m : Int) (k : Str), vs = [av, .int m] ∧ RunsG H av rs ∧ SeqOk rs ∧ 0 ≤ m ∧ m < lenR rs ∧ (cutR m (m + 1) 0 rs).head?.map (·.1) = some k ∧ ∀ H', Same H H' → Q (.str k) H'
theorem ok_kind_at (D : Df K mg "kind_at" s_kind_at) (G_checked_runs : Has P w K mg base 5 "checked_runs" ["sequence"] sp_checked_runs) (G_check_position : Has P w K mg base 3 "check_position" ["runs", "position"] sp_check_position) (G_cut : Has P w K mg base 1 "cut" ["runs", "start", "length"] sp_cut) : Has P w K mg base 6 "kind_at" ["sequence", "position"] sp_kind_at := by
  refine has_of D sc_kind_at (fun _ _ _ _ _ _ us hl => match us, hl with | [_, _], _ => rfl) (fun vs H Q E h => ?_) (fun f cdv A outer s₀ H vs Q E hr h => ?_)
  · obtain ⟨a, R, _, _, rfl, _⟩ := h
    rfl
  · obtain ⟨av, rs, m, k, rfl, hR, ok, m0, m1, hk, q⟩ := h
    have l4 : rs.length ≤ 1000 := by have := ok.1; omega
    refine ⟨_, (pss_cons (ps_set (i := 2) sc_kind_at.nd rfl (by first | exact Or.inl rfl | exact Or.inr rfl) (pe_callH G_checked_runs (hr.mono (by omega)) (by rfl) (pa_cons (pv 0) pa_nil)))
    (pss_cons (ps_expr (pe_callH G_check_position (hr.mono (by omega)) (by rfl) (pa_cons (pv 2) (pa_cons (pv 1) pa_nil))))
    (pss_one (ps_ret (pe_ix ix_tup (pe_ix ix_list (pe_callH G_cut (hr.mono (by omega)) (by rfl) (pa_cons (pv 2) (pa_cons (pv 1) (pa_cons pe_int pa_nil)))) pe_int (fun _ _ => rfl)) pe_int (fun _ _ => rfl)))))), ?_⟩
    refine ⟨_, rfl, av, rs, rfl, hR, ok, fun H1 p s1 np hp => ?_⟩
    refine ⟨_, rfl, _, rfl, p, rs, m, rfl, hp, l4, m0, m1, fun H2 s2 => ?_⟩
    refine ⟨_, rfl, _, rfl, p, rs, m, 1, rfl, hp.same s2, l4, fun H3 p3 s3 n3 h3 => ?_⟩
    obtain ⟨xs, hx, hpr⟩ := h3
    cases hc : cutR m (m + 1) 0 rs with
    | nil =>
      rw [hc] at hk
      cases hk
    | cons r t =>
      rw [hc] at hk hpr
      have hk : r.1 = k := Option.some.inj hk
      cases hpr with
      | cons h _ =>
        obtain ⟨tr, rfl, htr⟩ := h
        rw [hk] at htr
        exact ⟨p3, _, 0, _, rfl, rfl, .of hx, atI_nat (j := 0) rfl, tr, _, 0, _, rfl, rfl, .of htr, at0, q _ (s1.trans (s2.trans s3))⟩
end
end UP

set_option Elab.async false
set_option linter.all false
set_option maxRecDepth 100000
set_option maxHeartbeats 4000000
namespace UP
open PySem PySem.Spec PyProof.Rows L2 L2.DX
theorem eqv_same {a : Bool} (h : a = true) : (!a) = false := by rw [h]; rfl
theorem eqv_runs {rs : List Run} : PyData.eqv (.list (rs.map dRun)) (.list (rs.map dRun)) = true := by
  have gen : ∀ (rs : List Run), PyData.eqvAll (rs.map dRun) (rs.map dRun) = true := by
    intro rs
    induction rs with
    | nil => rfl
    | cons r t ih =>
      rw [List.map_cons, PyData.eqvAll, ih]
      simp [dRun, PyData.eqv, PyData.eqvAll]
  rw [PyData.eqv]
  exact gen rs
theorem eqv_strs {ks : List Str} : PyData.eqv (.list (ks.map PyData.str)) (.list (ks.map PyData.str)) = true := by
  have gen : ∀ (ks : List Str), PyData.eqvAll (ks.map PyData.str) (ks.map PyData.str) = true := by
    intro rs
    induction rs with
    | nil => rfl
    | cons r t ih =>
      rw [List.map_cons, PyData.eqvAll, ih]
      simp [PyData.eqv]
  rw [PyData.eqv]
  exact gen ks
theorem dp_strs {K : PySem.W.Frag} {H : Hp} : ∀ (ks : List Str), DpAll K H (ks.map V.str) (ks.map PyData.str)
  | [] => .nil
  | k :: t => .cons (.str k) (dp_strs t)
theorem shaped_strs {ks : List Str} (h : ∀ k ∈ ks, KindOk k) : SeqAt.shaped (.list (ks.map PyData.str)) = true := by
  have can : ∀ (ks : List Str), (∀ k ∈ ks, KindOk k) → PyData.canLayAll0 (ks.map PyData.str) = true := by
    intro ks
    induction ks with
    | nil => intro _; rfl
    | cons k t ih =>
      intro h
      rw [List.map_cons, PyData.canLayAll0, ih fun x hx => h x (List.mem_cons_of_mem _ hx), PyData.canLay0, (h k (List.mem_cons_self ..)).str]
      rfl
  have dep : ∀ (ks : List Str), PyData.depthAll (ks.map PyData.str) ≤ 1 := by
    intro ks
    induction ks with
    | nil => exact Nat.zero_le _
    | cons k t ih =>
      rw [List.map_cons, PyData.depthAll]
      exact Nat.max_le.mpr ⟨by rw [PyData.depth]; omega, ih⟩
  unfold SeqAt.shaped
  rw [PyData.canLay0, can ks h, PyData.depth]
  have := dep ks
  exact decide_eq_true (by omega)
theorem pick2 {x y r : Int} (h0 : 0 ≤ r) (h1 : r < 2) : ∃ g, atI [V.int x, V.int y] r = some (.int g) ∧ (g = x ∨ g = y) := by
  by_cases h : r = 0
  · subst h
    exact ⟨x, rfl, .inl rfl⟩
  · have e : r = 1 := by omega
    subst e
    exact ⟨y, rfl, .inr rfl⟩
/-! ### parts, by their items -/
theorem cut_its {s e : Int} : ∀ (rs : List Run) (b : Int), (∀ r ∈ rs, 1 ≤ r.2) → itR (cutR s e b rs) = ((itR rs).take (e - b).toNat).drop (s - b).toNat
  | [], b, _ => by
    show ([] : List Str) = (([] : List Str).take _).drop _
    rw [List.take_nil, List.drop_nil]
  | r :: t, b, k => by
    have c1 := k r (List.mem_cons_self ..)
    have ih := cut_its (s := s) (e := e) t (b + r.2) fun x hx => k x (List.mem_cons_of_mem _ hx)
    have e1 : cutR s e b (r :: t) = pieceR b s e r ++ cutR s e (b + r.2) t := rfl
    have e2 : itR (r :: t) = List.replicate r.2.toNat r.1 ++ itR t := rfl
    have ep : itR (pieceR b s e r) = List.replicate (min (e - b).toNat r.2.toNat - (s - b).toNat) r.1 := by
      by_cases hs : 0 < sizeR b s e r.2
      · rw [show pieceR b s e r = [(r.1, sizeR b s e r.2)] from if_pos hs]
        show List.replicate (sizeR b s e r.2).toNat r.1 ++ [] = _
        rw [List.append_nil]
        congr 1
        unfold sizeR at hs ⊢
        split at hs <;> split at hs <;> (first | rw [if_pos (by omega)] | rw [if_neg (by omega)]) <;> (first | rw [if_pos (by omega)] | rw [if_neg (by omega)]) <;> omega
      · rw [show pieceR b s e r = [] from if_neg hs]
        have : min (e - b).toNat r.2.toNat - (s - b).toNat = 0 := by
          unfold sizeR at hs
          split at hs <;> split at hs <;> omega
        rw [this]
        rfl
    rw [e1, it_app, ih, e2, take_app, List.length_replicate, List.take_replicate, List.drop_append, List.length_replicate, List.drop_replicate, ep, show (e - (b + r.2)).toNat = (e - b).toNat - r.2.toNat by omega]
    congr 1
    by_cases h : (e - b).toNat ≤ r.2.toNat
    · rw [show (e - b).toNat - r.2.toNat = 0 by omega, List.take_zero, List.drop_nil, List.drop_nil]
    · rw [show (s - (b + r.2)).toNat = (s - b).toNat - min (e - b).toNat r.2.toNat by omega]
theorem cut_pre {s e : Int} : ∀ (rs : List Run) (b : Int), s ≤ b → (∀ r ∈ rs, 1 ≤ r.2) → ∃ n, (cutR s e b rs).map (·.1) = (rs.map (·.1)).take n
  | [], _, _, _ => ⟨0, rfl⟩
  | r :: t, b, h0, k => by
    have c1 := k r (List.mem_cons_self ..)
    by_cases hs : 0 < sizeR b s e r.2
    · obtain ⟨n, hn⟩ := cut_pre (s := s) (e := e) t (b + r.2) (by omega) fun x hx => k x (List.mem_cons_of_mem _ hx)
      refine ⟨n + 1, ?_⟩
      show (pieceR b s e r ++ cutR s e (b + r.2) t).map (·.1) = r.1 :: (t.map (·.1)).take n
      rw [show pieceR b s e r = [(r.1, sizeR b s e r.2)] from if_pos hs, List.map_append, hn]
      rfl
    · refine ⟨0, ?_⟩
      have il : itR (cutR s e b (r :: t)) = [] := by
        rw [cut_its _ _ k, show (e - b).toNat = 0 by unfold sizeR at hs; split at hs <;> split at hs <;> omega, List.take_zero, List.drop_nil]
      have ll := len_it (cutR s e b (r :: t)) cutR_pos
      rw [il] at ll
      cases hc : cutR s e b (r :: t) with
      | nil => rfl
      | cons x u =>
        rw [hc] at ll
        have px : ∀ y ∈ x :: u, 1 ≤ y.2 := by rw [← hc]; exact cutR_pos
        have := len_mem px x (List.mem_cons_self ..)
        have := px x (List.mem_cons_self ..)
        have ll : ((0 : Nat) : Int) = lenR (x :: u) := ll
        omega
theorem cut_sub {s e : Int} : ∀ (rs : List Run) (b : Int), (∀ r ∈ rs, 1 ≤ r.2) → ∃ m n, (cutR s e b rs).map (·.1) = ((rs.map (·.1)).drop m).take n
  | [], _, _ => ⟨0, 0, rfl⟩
  | r :: t, b, k => by
    have c1 := k r (List.mem_cons_self ..)
    by_cases hb : s < b + r.2
    · by_cases hs : 0 < sizeR b s e r.2
      · obtain ⟨n, hn⟩ := cut_pre (s := s) (e := e) t (b + r.2) (by omega) fun x hx => k x (List.mem_cons_of_mem _ hx)
        refine ⟨0, n + 1, ?_⟩
        show (pieceR b s e r ++ cutR s e (b + r.2) t).map (·.1) = r.1 :: (t.map (·.1)).take n
        rw [show pieceR b s e r = [(r.1, sizeR b s e r.2)] from if_pos hs, List.map_append, hn]
        rfl
      · refine ⟨0, 0, ?_⟩
        have il : itR (cutR s e b (r :: t)) = [] := by
          rw [cut_its _ _ k]
          refine List.drop_of_length_le ?_
          rw [List.length_take]
          unfold sizeR at hs
          split at hs <;> split at hs <;> omega
        have ll := len_it (cutR s e b (r :: t)) cutR_pos
        rw [il] at ll
        cases hc : cutR s e b (r :: t) with
        | nil => rfl
        | cons x u =>
          rw [hc] at ll
          have px : ∀ y ∈ x :: u, 1 ≤ y.2 := by rw [← hc]; exact cutR_pos
          have := len_mem px x (List.mem_cons_self ..)
          have := px x (List.mem_cons_self ..)
          have ll : ((0 : Nat) : Int) = lenR (x :: u) := ll
          omega
    · obtain ⟨m, n, hn⟩ := cut_sub (s := s) (e := e) t (b + r.2) fun x hx => k x (List.mem_cons_of_mem _ hx)
      refine ⟨m + 1, n, ?_⟩
      have hs : ¬ 0 < sizeR b s e r.2 := by
        unfold sizeR
        split <;> split <;> omega
      show (pieceR b s e r ++ cutR s e (b + r.2) t).map (·.1) = ((t.map (·.1)).drop m).take n
      rw [show pieceR b s e r = [] from if_neg hs]
      exact hn
theorem alt_sub {rs hs : List Run} {m n : Nat} (h : hs.map (·.1) = ((rs.map (·.1)).drop m).take n) (a : Alt rs) : Alt hs := by
  intro i x y hx hy
  have g : ∀ (j : Nat) (z : Run), hs[j]? = some z → ∃ w, rs[m + j]? = some w ∧ w.1 = z.1 := by
    intro j z hz
    have := congrArg (fun l : List Str => l[j]?) h
    simp only [List.getElem?_map, hz, List.getElem?_take] at this
    split at this
    · rw [List.getElem?_drop, List.getElem?_map] at this
      cases e : rs[m + j]? with
      | none => rw [e] at this; cases this
      | some w =>
        rw [e] at this
        exact ⟨w, rfl, (Option.some.inj this).symm⟩
    · cases this
  obtain ⟨x', h1, e1⟩ := g i x hx
  obtain ⟨y', h2, e2⟩ := g (i + 1) y hy
  rw [← e1, ← e2]
  exact a (m + i) x' y' h1 h2
theorem cut_kind {s e : Int} : ∀ (rs : List Run) (b : Int), ∀ x ∈ cutR s e b rs, ∃ r ∈ rs, x.1 = r.1 ∧ x.2 ≤ r.2
  | [], _, x, h => by cases h
  | r :: t, b, x, h => by
    rcases List.mem_append.mp (show x ∈ pieceR b s e r ++ cutR s e (b + r.2) t from h) with z | z
    · by_cases hs : 0 < sizeR b s e r.2
      · rw [show pieceR b s e r = [(r.1, sizeR b s e r.2)] from if_pos hs] at z
        rw [List.mem_singleton.mp z]
        refine ⟨r, List.mem_cons_self .., rfl, ?_⟩
        show sizeR b s e r.2 ≤ r.2
        unfold sizeR
        split <;> split <;> omega
      · rw [show pieceR b s e r = [] from if_neg hs] at z
        cases z
    · obtain ⟨r', h1, h2⟩ := cut_kind t _ x z
      exact ⟨r', List.mem_cons_of_mem _ h1, h2⟩
theorem seq_cut {s e : Int} {rs : List Run} (ok : SeqOk rs) : SeqOk (cutR s e 0 rs) := by
  have pos : ∀ r ∈ rs, 1 ≤ r.2 := fun r hr => (ok.2.1 r hr).2.1
  refine ⟨Nat.le_trans (cutR_len s e rs 0) ok.1, fun x hx => ?_, ?_⟩
  · obtain ⟨r, hr, e1, e2⟩ := cut_kind rs 0 x hx
    have o := ok.2.1 r hr
    have l := cutR_pos x hx
    refine ⟨by rw [e1]; exact o.1, l, ?_⟩
    have := o.2.2
    omega
  · obtain ⟨m, n, h⟩ := cut_sub (s := s) (e := e) rs 0 pos
    exact alt_sub h ok.2.2
theorem same_runs {rs cs : List Run} (a : SeqOk rs) (b : SeqOk cs) (h : itR rs = itR cs) : rs = cs := by
  rw [← run_it a.2.2 (fun r hr => (a.2.1 r hr).2.1), ← run_it b.2.2 (fun r hr => (b.2.1 r hr).2.1), h]
theorem it_addc (rs : List Run) (r : Run) (p : ∀ r ∈ rs, 1 ≤ r.2) (c : 1 ≤ r.2) (a : Alt rs) : itR (addR rs r) = itR rs ++ List.replicate r.2.toNat r.1 ∧ (∀ x ∈ addR rs r, 1 ≤ x.2) ∧ Alt (addR rs r) := by
  rcases List.eq_nil_or_concat rs with e0 | ⟨R0, l, e0⟩
  · subst e0
    refine ⟨it_one r.1 r.2, fun x hx => ?_, fun i x y hx hy => by cases hy⟩
    rw [List.mem_singleton.mp (show x ∈ [r] from hx)]
    exact c
  · rw [List.concat_eq_append] at e0
    subst e0
    have c1 := p l (List.mem_append.mpr (.inr (List.mem_singleton.mpr rfl)))
    by_cases h : l.1 = r.1
    · rw [addR_more R0 l r h]
      refine ⟨?_, fun x hx => ?_, ?_⟩
      · rw [it_app, it_app, List.append_assoc, it_one]
        congr 1
        have e : itR [l] = List.replicate l.2.toNat l.1 := it_one l.1 l.2
        rw [e, h, List.replicate_append_replicate]
        congr 1
        omega
      · rcases List.mem_append.mp hx with z | z
        · exact p x (List.mem_append.mpr (.inl z))
        · rw [List.mem_singleton.mp z]
          show 1 ≤ l.2 + r.2
          omega
      · refine alt_sub (rs := R0 ++ [l]) (m := 0) (n := (R0 ++ [l]).length) ?_ a
        rw [List.drop_zero, List.map_append, List.map_append, List.take_of_length_le (by rw [List.length_append, List.length_append, List.length_map]; exact Nat.le_refl _)]
        show R0.map (·.1) ++ [r.1] = R0.map (·.1) ++ [l.1]
        rw [h]
    · rw [addR_new (fun l' hl => by rw [List.getLast?_concat] at hl; cases hl; exact h)]
      refine ⟨by rw [it_app]; congr 1; exact it_one r.1 r.2, fun x hx => ?_, ?_⟩
      · rcases List.mem_append.mp hx with z | z
        · exact p x z
        · rw [List.mem_singleton.mp z]
          exact c
      · refine alt_snoc a fun y hy => ?_
        rw [← List.getLast?_eq_getElem?, List.getLast?_concat] at hy
        cases hy
        exact h
theorem it_join : ∀ (cs rs : List Run), (∀ r ∈ rs, 1 ≤ r.2) → Alt rs → (∀ r ∈ cs, 1 ≤ r.2) → itR (joinR rs cs) = itR rs ++ itR cs ∧ (∀ r ∈ joinR rs cs, 1 ≤ r.2) ∧ Alt (joinR rs cs)
  | [], rs, p, a, _ => by
    refine ⟨?_, p, a⟩
    show itR rs = itR rs ++ []
    rw [List.append_nil]
  | c :: t, rs, p, a, pc => by
    obtain ⟨h1, h2, h3⟩ := it_addc rs c p (pc c (List.mem_cons_self ..)) a
    obtain ⟨g1, g2, g3⟩ := it_join t (addR rs c) h2 h3 fun r hr => pc r (List.mem_cons_of_mem _ hr)
    refine ⟨?_, g2, g3⟩
    show itR (joinR (addR rs c) t) = itR rs ++ (List.replicate c.2.toNat c.1 ++ itR t)
    rw [g1, h1, List.append_assoc]
theorem head_it {rs : List Run} (p : ∀ r ∈ rs, 1 ≤ r.2) : rs.head?.map (·.1) = (itR rs)[0]? := by
  cases rs with
  | nil => rfl
  | cons r t =>
    have c1 := p r (List.mem_cons_self ..)
    obtain ⟨n, hn⟩ : ∃ n : Nat, r.2.toNat = n + 1 := ⟨r.2.toNat - 1, by omega⟩
    show some r.1 = (List.replicate r.2.toNat r.1 ++ itR t)[0]?
    rw [hn]
    rfl
theorem kind_pos {rs : List Run} {m : Int} {k : Str} (p : ∀ r ∈ rs, 1 ≤ r.2) (m0 : 0 ≤ m) (h : (itR rs)[m.toNat]? = some k) : (cutR m (m + 1) 0 rs).head?.map (·.1) = some k := by
  rw [head_it cutR_pos, cut_its _ _ p, List.getElem?_drop, List.getElem?_take, if_pos (by omega), Int.sub_zero, Nat.add_zero]
  exact h
theorem merge_id : ∀ (kvs acc : List (L2.Key × V)), ((acc ++ kvs).map (·.1)).Nodup → mergeK acc kvs = acc ++ kvs
  | [], acc, _ => by
    rw [List.append_nil]
    rfl
  | x :: t, acc, h => by
    have e : (acc ++ [x]) ++ t = acc ++ x :: t := by rw [List.append_assoc]; rfl
    have no : valV acc x.1 = none := by
      cases hv : valV acc x.1 with
      | none => rfl
      | some v =>
        exfalso
        rw [List.map_append] at h
        have h3 := (List.nodup_append.mp h).2.2
        have hm : x.1 ∈ acc.map (·.1) := by
          unfold valV at hv
          cases hf : acc.find? fun kv => decide (kv.1 = x.1) with
          | none => rw [hf] at hv; cases hv
          | some kv =>
            have e1 := List.find?_some (p := fun kv : L2.Key × V => decide (kv.1 = x.1)) hf
            exact List.mem_map.mpr ⟨kv, List.mem_of_find?_eq_some hf, of_decide_eq_true e1⟩
        exact h3 _ hm _ (List.mem_map.mpr ⟨x, List.mem_cons_self .., rfl⟩) rfl
    show mergeK (putK acc x.1 x.2) t = acc ++ x :: t
    rw [putK_new x.2 no, show ((x.1, x.2) : L2.Key × V) = x from rfl, merge_id t (acc ++ [x]) (by rw [e]; exact h), e]
theorem CT.merge {ks : List Run} {its : List Str} (c : CT ks its) : mergeK [] (ks.map entK) = ks.map entK := by
  refine (merge_id _ [] ?_).trans (List.nil_append _)
  rw [List.nil_append, List.map_map]
  have e : ks.map ((fun kv : L2.Key × V => kv.1) ∘ entK) = (ks.map (·.1)).map Sum.inr := by rw [List.map_map]; rfl
  rw [e]
  exact List.pairwise_map.mpr (c.nd.imp fun h z => h (Sum.inr.inj z))
theorem refs_run {H : Hp} : ∀ {xs : List V} {Q : List Run}, Paired (RunV H) xs Q → ∃ ps : List Addr, xs = ps.map V.ref ∧ Paired (fun p q => H p = some (.tup [kV (entK q).1, (entK q).2])) ps Q
  | _, _, .nil => ⟨[], rfl, .nil⟩
  | _, _, .cons ⟨t, e, h⟩ r => by
    obtain ⟨ps, e2, h2⟩ := refs_run r
    exact ⟨t :: ps, by rw [e, e2]; rfl, .cons h h2⟩
theorem Paired.mapr {α β γ : Type} {F : α → β → Prop} {G : α → γ → Prop} {f : β → γ} (h : ∀ a b, F a b → G a (f b)) : ∀ {xs : List α} {ys : List β}, Paired F xs ys → Paired G xs (ys.map f)
  | _, _, .nil => .nil
  | _, _, .cons a r => .cons (h _ _ a) (Paired.mapr h r)
theorem dict_get {H : Hp} {d : Addr} {ks : List Run} {its : List Str} (c : CT ks its) (k : Str) (h : H d = some (.dK (mergeK [] (ks.map entK)))) : ∃ o, DGet H d (.str k) o ∧ o.getD (.int 0) = .int ((its.count k : Nat) : Int) := by
  rw [c.merge] at h
  exact ⟨_, DGet.k (k := Sum.inr k) h, c.get k⟩
end UP

set_option Elab.async false
set_option linter.all false
set_option maxRecDepth 100000
set_option maxHeartbeats 4000000
set_option pp.maxSteps 600
namespace UP
open PySem PySem.Spec PyProof.Rows L2
-- Gb
/-! ### values of any form that a menu holds -/
inductive Dat where
  | non
  | bl (b : Bool)
  | int (n : Int)
  | str (z : Str)
  | dic
  | lst (l : List Dat)
  | tup (l : List Dat)
inductive Rp (H : Hp) : V → Dat → Prop where
  | non : Rp H .non .non
  | bl (b : Bool) : Rp H (.bl b) (.bl b)
  | int (n : Int) : Rp H (.int n) (.int n)
  | str (z : Str) : Rp H (.str z) (.str z)
  | dic {a : Addr} (e : H a = some (.dK [])) : Rp H (.ref a) .dic
  | lst {a : Addr} {xs : List V} {l : List Dat} (e : H a = some (.lst xs)) (h : Paired (Rp H) xs l) : Rp H (.ref a) (.lst l)
  | tup {a : Addr} {xs : List V} {l : List Dat} (e : H a = some (.tup xs)) (h : Paired (Rp H) xs l) : Rp H (.ref a) (.tup l)
theorem Rp.same {H H' : Hp} (s : Same H H') {v : V} {d : Dat} (h : Rp H v d) : Rp H' v d := by
  refine Rp.rec (motive_1 := fun v d _ => Rp H' v d) (motive_2 := fun xs l _ => Paired (Rp H') xs l) .non .bl .int .str ?_ ?_ ?_ .nil ?_ h
  · intro a e
    exact .dic (s _ _ e)
  · intro a xs l e _ ih
    exact .lst (s _ _ e) ih
  · intro a xs l e _ ih
    exact .tup (s _ _ e) ih
  · intro x y xs ys _ _ h1 h2
    exact .cons h1 h2
def Dat.isI : Dat → Bool
  | .int _ => true
  | _ => false
def Dat.inI (lo hi : Int) : Dat → Bool
  | .int n => decide (lo ≤ n ∧ n ≤ hi)
  | _ => false
/-- its parts, if it is a list or a tuple -/
def Dat.parts : Dat → Option (List Dat)
  | .lst l => some l
  | .tup l => some l
  | _ => none
def Dat.listed (d : Dat) (m : Int) : Bool := match d.parts with
  | some l => decide ((l.length : Int) ≤ m)
  | none => false
def Dat.couple (d : Dat) : Bool := match d.parts with
  | some l => decide (l.length = 2)
  | none => false
/-- the name of its type -/
def Dat.ty : Dat → String
  | .non => "NoneType"
  | .bl _ => "bool"
  | .int _ => "int"
  | .str _ => "str"
  | .dic => "dict"
  | .lst _ => "list"
  | .tup _ => "tuple"
theorem Rp.tyx {K : PySem.W.Frag} {H : Hp} {v : V} {d : Dat} (h : Rp H v d) : TyX K H v (.type d.ty) := by
  cases h with
  | non => exact .base .non
  | bl b => exact .base (.bl b)
  | int n => exact .base (.int n)
  | str z => exact .base (.str z)
  | dic e => exact .base (.dK e)
  | lst e _ => exact .base (.lst e)
  | tup e _ => exact .base (.tup e)
theorem Rp.noSeq {K : PySem.W.Frag} {H : Hp} {v : V} {d : Dat} (h : Rp H v d) (hd : d.parts = none) : ∃ t, TyX K H v t ∧ PySem.W.kitAny K t [.type "list", .type "tuple"] = some false := by
  cases h with
  | non => exact ⟨_, .base .non, kit_no (by decide +kernel) (by decide +kernel)⟩
  | bl b => exact ⟨_, .base (.bl b), kit_no (by decide +kernel) (by decide +kernel)⟩
  | int n => exact ⟨_, .base (.int n), kit_no (by decide +kernel) (by decide +kernel)⟩
  | str z => exact ⟨_, .base (.str z), kit_no (by decide +kernel) (by decide +kernel)⟩
  | dic e => exact ⟨_, .base (.dK e), kit_no (by decide +kernel) (by decide +kernel)⟩
  | lst e _ => cases hd
  | tup e _ => cases hd
theorem Rp.seq {H : Hp} {v : V} {d : Dat} (h : Rp H v d) {l : List Dat} (hd : d.parts = some l) : ∃ a xs, v = .ref a ∧ Sq2 H a xs ∧ Paired (Rp H) xs l := by
  cases h with
  | non => cases hd
  | bl b => cases hd
  | int n => cases hd
  | str z => cases hd
  | dic e => cases hd
  | lst e h => cases hd; exact ⟨_, _, rfl, .inl e, h⟩
  | tup e h => cases hd; exact ⟨_, _, rfl, .inr e, h⟩
theorem giP {b : Bool} {A B : Prop} (h : b = true) (x : A) : if b = true then A else B := by
  rw [if_pos h]
  exact x
theorem giN {b : Bool} {A B : Prop} (h : b = false) (x : B) : if b = true then A else B := by
  rw [if_neg (by rw [h]; decide)]
  exact x
section
variable {P : Program} {w : World} {K : PySem.W.Frag} {mg : Str → Option Value} {base : Heap}
def spD_is_whole : Sp := fun vs H Q _ => ∃ (v : V) (d : Dat), vs = [v] ∧ Rp H v d ∧ Q (.bl d.isI) H
theorem okD_is_whole (D : Df K mg "is_whole" s_is_whole) (T : Tx mg) : Has P w K mg base 1 "is_whole" ["value"] spD_is_whole := by
  refine has_of D sc_is_whole (fun _ _ _ _ _ _ us hl => match us, hl with | [_], _ => rfl) (fun vs H Q E h => ?_) (fun f cdv A outer s H vs Q E hr h => ?_)
  · obtain ⟨v, d, rfl, _⟩ := h
    rfl
  · obtain ⟨v, d, rfl, hv, q⟩ := h
    refine ⟨_, (pss_one (ps_ret (pe_and (pe_callB call_isi (by rfl) T.n_isinstance (by decide +kernel) (pa_cons (pv 0) (pa_cons (pe_bltn (v := .ty "int") (by rfl) T.n_int (by decide +kernel) rfl) pa_nil))) (pe_one (pe_not (pe_callB call_isi (by rfl) T.n_isinstance (by decide +kernel) (pa_cons (pv 0) (pa_cons (pe_bltn (v := .ty "bool") (by rfl) T.n_bool (by decide +kernel) rfl) pa_nil)))))))), ?_⟩
    cases hv with
    | int n => exact ⟨_, rfl, _, _, _, _, true, rfl, .ty "int", .base (.int n), kit_ty (by decide +kernel), true, rfl, iteT ⟨_, rfl, _, _, _, _, false, rfl, .ty "bool", .base (.int n), kit_ty (by decide +kernel), false, rfl, q⟩⟩
    | bl b => exact ⟨_, rfl, _, _, _, _, true, rfl, .ty "int", .base (.bl b), kit_ty (by decide +kernel), true, rfl, iteT ⟨_, rfl, _, _, _, _, true, rfl, .ty "bool", .base (.bl b), kit_ty (by decide +kernel), true, rfl, q⟩⟩
    | non => exact ⟨_, rfl, _, _, _, _, false, rfl, .ty "int", .base .non, kit_ty (by decide +kernel), false, rfl, iteF q⟩
    | str z => exact ⟨_, rfl, _, _, _, _, false, rfl, .ty "int", .base (.str z), kit_ty (by decide +kernel), false, rfl, iteF q⟩
    | dic e => exact ⟨_, rfl, _, _, _, _, false, rfl, .ty "int", .base (.dK e), kit_ty (by decide +kernel), false, rfl, iteF q⟩
    | lst e h => exact ⟨_, rfl, _, _, _, _, false, rfl, .ty "int", .base (.lst e), kit_ty (by decide +kernel), false, rfl, iteF q⟩
    | tup e h => exact ⟨_, rfl, _, _, _, _, false, rfl, .ty "int", .base (.tup e), kit_ty (by decide +kernel), false, rfl, iteF q⟩
def spD_is_within : Sp := fun vs H Q _ => ∃ (v : V) (d : Dat) (lo hi : Int), vs = [v, .int lo, .int hi] ∧ Rp H v d ∧ Q (.bl (d.inI lo hi)) H
theorem okD_is_within (D : Df K mg "is_within" s_is_within) (G_is_whole : Has P w K mg base 1 "is_whole" ["value"] spD_is_whole) : Has P w K mg base 2 "is_within" ["value", "low", "high"] spD_is_within := by
  refine has_of D sc_is_within (fun _ _ _ _ _ _ us hl => match us, hl with | [_, _, _], _ => rfl) (fun vs H Q E h => ?_) (fun f cdv A outer s H vs Q E hr h => ?_)
  · obtain ⟨v, d, lo, hi, rfl, _⟩ := h
    rfl
  · obtain ⟨v, d, lo, hi, rfl, hv, q⟩ := h
    refine ⟨_, (pss_one (ps_ret (pe_and (pe_callH G_is_whole (hr.mono (by omega)) (by rfl) (pa_cons (pv 0) pa_nil)) (pe_one (pe_chain op_le op_le (pv 1) (pv 0) (pv 2)))))), ?_⟩
    refine ⟨_, rfl, v, d, rfl, hv, d.isI, rfl, ?_⟩
    by_cases ci : d.isI = true
    · refine giP ci ?_
      cases hv with
      | int n =>
        refine ⟨_, rfl, _, rfl, _, _, rfl, rfl, _, rfl, ite2 (fun e => ?_) (fun e => ?_)⟩
        · have e := of_decide_eq_true e
          refine ⟨_, rfl, _, _, rfl, rfl, ?_⟩
          show Q (.bl (decide (n ≤ hi))) H
          rw [show decide (n ≤ hi) = (Dat.int n).inI lo hi by show _ = decide (lo ≤ n ∧ n ≤ hi); simp [e]]
          exact q
        · have e : ¬ lo ≤ n := fun z => e (decide_eq_true z)
          show Q (.bl false) H
          rw [show false = (Dat.int n).inI lo hi by show _ = decide (lo ≤ n ∧ n ≤ hi); simp [e]]
          exact q
      | _ => cases ci
    · refine giN (by simpa using ci) ?_
      have e : d.inI lo hi = false := by
        cases d with
        | int n => exact absurd rfl ci
        | _ => rfl
      rw [e] at q
      exact q
def spD_is_listed : Sp := fun vs H Q _ => ∃ (v : V) (d : Dat) (m : Int), vs = [v, .int m] ∧ Rp H v d ∧ ∀ H', Same H H' → Q (.bl (d.listed m)) H'
theorem okD_is_listed (D : Df K mg "is_listed" s_is_listed) (T : Tx mg) : Has P w K mg base 1 "is_listed" ["value", "most"] spD_is_listed := by
  refine has_of D sc_is_listed (fun _ _ _ _ _ _ us hl => match us, hl with | [_, _], _ => rfl) (fun vs H Q E h => ?_) (fun f cdv A outer s H vs Q E hr h => ?_)
  · obtain ⟨v, d, m, rfl, _⟩ := h
    rfl
  · obtain ⟨v, d, m, rfl, hv, q⟩ := h
    refine ⟨_, (pss_one (ps_ret (pe_and (pe_callB call_isiT (by rfl) T.n_isinstance (by decide +kernel) (pa_cons (pv 0) (pa_cons (pe_tup (pa_cons (pe_bltn (v := .ty "list") (by rfl) T.n_list (by decide +kernel) rfl) (pa_cons (pe_bltn (v := .ty "tuple") (by rfl) T.n_tuple (by decide +kernel) rfl) pa_nil))) pa_nil))) (pe_one (pe_cmpR op_le (pe_callB call_len_seq (by rfl) T.n_len (by decide +kernel) (pa_cons (pv 0) pa_nil)) (pv 1) (nomark _)))))), ?_⟩
    refine ⟨_, rfl, (by show 2 ≤ sizeLine; decide), fun t nt => ?_⟩
    have q := q _ (same_upd (o := .tup [.ty "list", .ty "tuple"]) nt)
    have hv := hv.same (same_upd (o := .tup [.ty "list", .ty "tuple"]) nt)
    cases hd : d.parts with
    | none =>
      obtain ⟨tv, h1, h2⟩ := hv.noSeq (K := K) hd
      refine ⟨_, t, _, _, _, false, rfl, upd_same, .cons (.ty "list") (.cons (.ty "tuple") .nil), h1, h2, false, rfl, iteF ?_⟩
      rw [show d.listed m = false by unfold Dat.listed; rw [hd]] at q
      exact q
    | some l =>
      obtain ⟨a, xs, rfl, hx, hp⟩ := hv.seq hd
      have ll : xs.length = l.length := Paired.len hp
      rw [show d.listed m = decide ((xs.length : Int) ≤ m) by unfold Dat.listed; rw [hd, ll]] at q
      rcases hx with hx | hx
      · refine ⟨_, t, _, _, _, true, rfl, upd_same, .cons (.ty "list") (.cons (.ty "tuple") .nil), .base (.lst hx), kit_lst, true, rfl, iteT ?_⟩
        exact ⟨_, rfl, _, _, rfl, .inl (.of hx), _, rfl, _, _, rfl, rfl, q⟩
      · refine ⟨_, t, _, _, _, true, rfl, upd_same, .cons (.ty "list") (.cons (.ty "tuple") .nil), .base (.tup hx), kit_tup, true, rfl, iteT ?_⟩
        exact ⟨_, rfl, _, _, rfl, .inr (.of hx), _, rfl, _, _, rfl, rfl, q⟩
def spD_is_couple : Sp := fun vs H Q _ => ∃ (v : V) (d : Dat), vs = [v] ∧ Rp H v d ∧ ∀ H', Same H H' → Q (.bl d.couple) H'
theorem okD_is_couple (D : Df K mg "is_couple" s_is_couple) (T : Tx mg) : Has P w K mg base 1 "is_couple" ["value"] spD_is_couple := by
  refine has_of D sc_is_couple (fun _ _ _ _ _ _ us hl => match us, hl with | [_], _ => rfl) (fun vs H Q E h => ?_) (fun f cdv A outer s H vs Q E hr h => ?_)
  · obtain ⟨v, d, rfl, _⟩ := h
    rfl
  · obtain ⟨v, d, rfl, hv, q⟩ := h
    refine ⟨_, (pss_one (ps_ret (pe_and (pe_callB call_isiT (by rfl) T.n_isinstance (by decide +kernel) (pa_cons (pv 0) (pa_cons (pe_tup (pa_cons (pe_bltn (v := .ty "list") (by rfl) T.n_list (by decide +kernel) rfl) (pa_cons (pe_bltn (v := .ty "tuple") (by rfl) T.n_tuple (by decide +kernel) rfl) pa_nil))) pa_nil))) (pe_one (pe_cmpR op_eq (pe_callB call_len_seq (by rfl) T.n_len (by decide +kernel) (pa_cons (pv 0) pa_nil)) pe_int (nomark _)))))), ?_⟩
    refine ⟨_, rfl, (by show 2 ≤ sizeLine; decide), fun t nt => ?_⟩
    have q := q _ (same_upd (o := .tup [.ty "list", .ty "tuple"]) nt)
    have hv := hv.same (same_upd (o := .tup [.ty "list", .ty "tuple"]) nt)
    cases hd : d.parts with
    | none =>
      obtain ⟨tv, h1, h2⟩ := hv.noSeq (K := K) hd
      refine ⟨_, t, _, _, _, false, rfl, upd_same, .cons (.ty "list") (.cons (.ty "tuple") .nil), h1, h2, false, rfl, iteF ?_⟩
      rw [show d.couple = false by unfold Dat.couple; rw [hd]] at q
      exact q
    | some l =>
      obtain ⟨a, xs, rfl, hx, hp⟩ := hv.seq hd
      have ll : xs.length = l.length := Paired.len hp
      have eb : decide (V.int (xs.length : Int) = V.int 2) = d.couple := by
        unfold Dat.couple
        rw [hd]
        show _ = decide (l.length = 2)
        rw [← ll]
        exact decide_eq_decide.mpr ⟨fun z => by have := V.int.inj z; omega, fun z => by rw [z]; rfl⟩
      rw [← eb] at q
      rcases hx with hx | hx
      · exact ⟨_, t, _, _, _, true, rfl, upd_same, .cons (.ty "list") (.cons (.ty "tuple") .nil), .base (.lst hx), kit_lst, true, rfl, iteT ⟨_, rfl, _, _, rfl, .inl (.of hx), rfl, q⟩⟩
      · exact ⟨_, t, _, _, _, true, rfl, upd_same, .cons (.ty "list") (.cons (.ty "tuple") .nil), .base (.tup hx), kit_tup, true, rfl, iteT ⟨_, rfl, _, _, rfl, .inr (.of hx), rfl, q⟩⟩
end
-- Gc
section
variable {X : Cx} {K : PySem.W.Frag}
end
/-! ### lists that grow -/
section
variable {P : Program} {w : World} {K : PySem.W.Frag} {mg : Str → Option Value} {base : Heap}
/-! ### what the functions say of such a value -/
def kindB (z : Str) : Bool := decide (1 ≤ (z.length : Int) ∧ (z.length : Int) ≤ 8) && z.cps.toList.all fun c => decide (97 ≤ c ∧ c ≤ 122)
def Dat.kind : Dat → Bool
  | .str z => kindB z
  | _ => false
/-- its text, if it is one, is not too long -/
def Dat.fit : Dat → Prop
  | .str z => z.length ≤ 4000
  | _ => True
def Dat.two (d : Dat) : Option (Dat × Dat) := match d.parts with
  | some [x, y] => some (x, y)
  | _ => none
def Dat.run (d : Dat) : Bool := match d.two with
  | some (x, y) => x.kind && y.inI 1 1000000000000000000000000000000
  | none => false
def Dat.pos : Dat → Bool
  | .int n => decide (1 ≤ n)
  | _ => false
def Dat.state (d : Dat) : Bool := match d with
  | .non => true
  | d => match d.two with
    | some (x, y) => x.kind && y.pos
    | none => false
def Dat.fit2 (d : Dat) : Prop := ∀ x y, d.two = some (x, y) → x.fit
theorem kitS {K : PySem.W.Frag} {H : Hp} {v : V} {d : Dat} (h : Rp H v d) (hn : ∀ z, d ≠ .str z) : ∃ t, TyX K H v t ∧ PySem.W.kitOne K t (.type "str") = some false := by
  cases h with
  | non => exact ⟨_, .base .non, kit_ty (by decide +kernel)⟩
  | bl b => exact ⟨_, .base (.bl b), kit_ty (by decide +kernel)⟩
  | int n => exact ⟨_, .base (.int n), kit_ty (by decide +kernel)⟩
  | str z => exact absurd rfl (hn z)
  | dic e => exact ⟨_, .base (.dK e), kit_ty (by decide +kernel)⟩
  | lst e _ => exact ⟨_, .base (.lst e), kit_ty (by decide +kernel)⟩
  | tup e _ => exact ⟨_, .base (.tup e), kit_ty (by decide +kernel)⟩
theorem all_map {α : Type} (l : List α) (f : α → Bool) : ((l.map f).all id) = l.all f := by
  induction l with
  | nil => rfl
  | cons x t ih => rw [List.map_cons, List.all_cons, List.all_cons, ih]; rfl
def spD_is_kind : Sp := fun vs H Q _ => ∃ (v : V) (d : Dat), vs = [v] ∧ Rp H v d ∧ d.fit ∧ ∀ H', Same H H' → Q (.bl d.kind) H'
theorem okD_is_kind (D : Df K mg "is_kind" s_is_kind) (T : Tx mg) : Has P w K mg base 1 "is_kind" ["value"] spD_is_kind := by
  refine has_of D sc_is_kind (fun _ _ _ _ _ _ us hl => match us, hl with | [_], _ => rfl) (fun vs H Q E h => ?_) (fun f cdv A outer s H vs Q E hr h => ?_)
  · obtain ⟨v, d, rfl, _⟩ := h
    rfl
  · obtain ⟨v, d, rfl, hv, fit, q⟩ := h
    refine ⟨_, (pss_cons (ps_if (PW.pt (pw_or (pt_not (pt_val (pe_callB call_isi (by rfl) T.n_isinstance (by decide +kernel) (pa_cons (pv 0) (pa_cons (pe_bltn (v := .ty "str") (by rfl) T.n_str (by decide +kernel) rfl) pa_nil))))) (pw_or1 (pt_not (pt_chain op_le op_le pe_int (pe_callB call_len_str (by rfl) T.n_len (by decide +kernel) (pa_cons (pv 0) pa_nil)) (pe_glI T.c_MAX_LETTERS (by rfl))))))) (pss_one (ps_ret pe_bl)) pss_nil)
    (pss_one (ps_ret (pe_callB (cr_all rfl) (by rfl) T.n_all (by decide +kernel) (pa_cons (pe_lc (own := [("letter", 1)]) rfl sc_is_kind.nd (pi_str (pv 0)) (blkOk_by (N := ["value", "letter"]) (sc := defScope s_is_kind) (by decide +kernel)) (fun _ _ _ _ _ => (pg_name (i := 1) sc_is_kind.nd rfl (by first | exact Or.inl rfl | exact Or.inr rfl))) (fun _ _ _ _ _ => pts_nil) (fun _ _ _ _ _ => (pe_chain op_le_str op_le_str pe_str (pv 1) pe_str))) pa_nil))))), ?_⟩
    by_cases hn : ∀ z, d ≠ .str z
    · obtain ⟨t, h1, h2⟩ := kitS (K := K) hv hn
      have e : d.kind = false := by
        cases d with
        | str z => exact absurd rfl (hn z)
        | _ => rfl
      rw [e] at q
      exact ⟨_, rfl, _, _, _, _, false, rfl, .ty "str", h1, h2, false, rfl, iteT (q H (Same.refl H))⟩
    have hn : ∃ z, d = .str z := by
      apply Classical.byContradiction
      intro c
      exact hn fun z e => c ⟨z, e⟩
    obtain ⟨z, rfl⟩ := hn
    cases hv
    have fit : z.length ≤ 4000 := fit
    refine ⟨_, rfl, _, _, _, _, true, rfl, .ty "str", .base (.str z), kit_ty (by decide +kernel), true, rfl, iteF ?_⟩
    have no : ¬ (1 ≤ (z.length : Int) ∧ (z.length : Int) ≤ 8) → (Dat.str z).kind = false := fun c => by
      show (decide _ && _) = false
      rw [decide_eq_false c]
      rfl
    refine ⟨_, rfl, z, rfl, smallE (by omega), _, _, rfl, rfl, _, rfl, ?_⟩
    by_cases c1 : (1 : Int) ≤ (z.length : Int)
    · refine iteP (decide_eq_true c1) ⟨_, _, rfl, rfl, _, rfl, ?_⟩
      by_cases c2 : (z.length : Int) ≤ 8
      · refine iteN ?_ ?_
        · show (!decide ((z.length : Int) ≤ 8)) = false
          rw [decide_eq_true c2]
          rfl
        refine ⟨_, rfl, z, rfl, fun L nL => lc_gen (n := z.cps.size) (fun i H' => Same H H' ∧ H' L = some (.lst (((z.cps.toList.take i).map fun c => decide (97 ≤ c ∧ c ≤ 122)).map V.bl))) ⟨same_upd nL, upd_same⟩ (fun i H' hi _ => hi) (fun H' _ => Nat.le_refl _) (fun i x H1 H2 hi p y => ?_) (fun H' p => ?_)⟩
        · obtain ⟨rfl, c, ec, rfl⟩ := y
          obtain ⟨sm, hL⟩ := p
          have ec' : z.cps.toList[i]? = some c := by
            rw [Array.getElem?_toList]
            exact ec
          have ea : ("a" : Str).cps.toList = [97] := by decide +kernel
          have ez : ("z" : Str).cps.toList = [122] := by decide +kernel
          have lim : (((z.cps.toList.take i).map fun c => decide (97 ≤ c ∧ c ≤ 122)).map V.bl).length < sizeLine := by
            simp only [List.length_map, List.length_take]
            exact small (by have : z.cps.size = z.length := rfl; omega)
          have put : ∀ b : Bool, b = decide (97 ≤ c ∧ c ≤ 122) → Same H (upd H2 L (.lst ((((z.cps.toList.take i).map fun c => decide (97 ≤ c ∧ c ≤ 122)).map V.bl) ++ [V.bl b]))) ∧ (upd H2 L (.lst ((((z.cps.toList.take i).map fun c => decide (97 ≤ c ∧ c ≤ 122)).map V.bl) ++ [V.bl b]))) L = some (.lst (((z.cps.toList.take (i + 1)).map fun c => decide (97 ≤ c ∧ c ≤ 122)).map V.bl)) := by
            intro b hb
            refine ⟨same_grow nL sm, ?_⟩
            rw [upd_same, take_snoc ec', List.map_append, List.map_append, hb]
            rfl
          have t1 : (!decide (([c] : List Nat) < ("a" : Str).cps.toList)) = decide (97 ≤ c) := by rw [ea, lex1]
          have t2 : (!decide ((("z" : Str).cps.toList) < ([c] : List Nat))) = decide (c ≤ 122) := by rw [ez, lex1]
          refine ⟨rfl, yesT ⟨_, rfl, _, _, rfl, rfl, _, rfl, ?_⟩⟩
          by_cases b1 : 97 ≤ c
          · refine iteP (t1.trans (decide_eq_true b1)) ⟨_, _, rfl, rfl, _, hL, lim, put _ ?_⟩
            exact t2.trans (decide_eq_decide.mpr ⟨fun z => ⟨b1, z⟩, fun z => z.2⟩)
          · refine iteN (t1.trans (decide_eq_false b1)) ⟨_, hL, lim, put _ ?_⟩
            exact (decide_eq_false (p := 97 ≤ c ∧ c ≤ 122) (fun z => b1 z.1)).symm
        · refine ⟨L, _, rfl, .of p.2, ?_⟩
          have e : (((z.cps.toList.take z.cps.size).map fun c => decide (97 ≤ c ∧ c ≤ 122)).all id) = (Dat.str z).kind := by
            rw [all_map, List.take_of_length_le (by rw [Array.length_toList]; exact Nat.le_refl _)]
            show _ = (decide _ && _)
            rw [decide_eq_true ⟨c1, c2⟩]
            rfl
          rw [e]
          exact q H' p.1
      · refine iteP ?_ ?_
        · show (!decide ((z.length : Int) ≤ 8)) = true
          rw [decide_eq_false c2]
          rfl
        rw [no fun k => c2 k.2] at q
        exact q H (Same.refl H)
    · rw [no fun k => c1 k.1] at q
      exact iteN (decide_eq_false c1) ⟨_, rfl, iteT (q H (Same.refl H))⟩
theorem Rp.two {H : Hp} {v : V} {d x y : Dat} (h : Rp H v d) (e : d.two = some (x, y)) : ∃ a vx vy, v = .ref a ∧ Sq2 H a [vx, vy] ∧ Rp H vx x ∧ Rp H vy y := by
  cases hp : d.parts with
  | none =>
    unfold Dat.two at e
    rw [hp] at e
    cases e
  | some l =>
    obtain ⟨a, xs, rfl, hx, hq⟩ := h.seq hp
    unfold Dat.two at e
    rw [hp] at e
    cases hq with
    | nil => cases e
    | cons h1 t1 =>
      cases t1 with
      | nil => cases e
      | cons h2 t2 =>
        cases t2 with
        | nil =>
          cases e
          exact ⟨a, _, _, rfl, hx, h1, h2⟩
        | cons h3 t3 => cases e
theorem couple_two {d : Dat} : d.couple = d.two.isSome := by
  unfold Dat.couple Dat.two
  cases d.parts with
  | none => rfl
  | some l =>
    match l with
    | [] => rfl
    | [x] => rfl
    | [x, y] => rfl
    | x :: y :: z :: t =>
      show decide ((x :: y :: z :: t).length = 2) = false
      exact decide_eq_false (by simp only [List.length_cons]; omega)
def spD_is_run : Sp := fun vs H Q _ => ∃ (v : V) (d : Dat), vs = [v] ∧ Rp H v d ∧ d.fit2 ∧ ∀ H', Same H H' → Q (.bl d.run) H'
theorem okD_is_run (D : Df K mg "is_run" s_is_run) (T : Tx mg) (G_is_couple : Has P w K mg base 1 "is_couple" ["value"] spD_is_couple) (G_is_kind : Has P w K mg base 1 "is_kind" ["value"] spD_is_kind) (G_is_within : Has P w K mg base 2 "is_within" ["value", "low", "high"] spD_is_within) :
    Has P w K mg base 3 "is_run" ["value"] spD_is_run := by
  refine has_of D sc_is_run (fun _ _ _ _ _ _ us hl => match us, hl with | [_], _ => rfl) (fun vs H Q E h => ?_) (fun f cdv A outer s H vs Q E hr h => ?_)
  · obtain ⟨v, d, rfl, _⟩ := h
    rfl
  · obtain ⟨v, d, rfl, hv, fit, q⟩ := h
    refine ⟨_, (pss_one (ps_ret (pe_and (pe_callH G_is_couple (hr.mono (by omega)) (by rfl) (pa_cons (pv 0) pa_nil)) (pe_and (pe_callH G_is_kind (hr.mono (by omega)) (by rfl) (pa_cons (pe_ix ix_seq (pv 0) pe_int (fun _ _ => rfl)) pa_nil)) (pe_one (pe_callH G_is_within (hr.mono (by omega)) (by rfl) (pa_cons (pe_ix ix_seq (pv 0) pe_int (fun _ _ => rfl)) (pa_cons pe_int (pa_cons (pe_glI T.c_MAX_COUNT (by rfl)) pa_nil))))))))), ?_⟩
    refine ⟨_, rfl, v, d, rfl, hv, fun H1 s1 => ⟨d.couple, rfl, ?_⟩⟩
    cases ht : d.two with
    | none =>
      have e1 : d.couple = false := by rw [couple_two, ht]; rfl
      have e2 : d.run = false := by unfold Dat.run; rw [ht]
      rw [e2] at q
      refine iteN e1 ?_
      exact q _ s1
    | some p =>
      obtain ⟨x, y⟩ := p
      have e1 : d.couple = true := by rw [couple_two, ht]; rfl
      have e2 : d.run = (x.kind && y.inI 1 1000000000000000000000000000000) := by unfold Dat.run; rw [ht]
      rw [e2] at q
      obtain ⟨a, vx, vy, rfl, hs, hx, hy⟩ := hv.two ht
      refine iteP e1 ?_
      refine ⟨_, rfl, ix0 (hs.same s1) ⟨vx, x, rfl, hx.same s1, fit x y ht, fun H2 s2 => ⟨x.kind, rfl, ?_⟩⟩⟩
      by_cases ck : x.kind = true
      · refine iteP ck ?_
        rw [ck] at q
        refine ⟨_, rfl, ix1 ((hs.same s1).same s2) ⟨vy, y, 1, _, rfl, hy.same (s1.trans s2), q _ (s1.trans s2)⟩⟩
      · have ck : x.kind = false := by simpa using ck
        refine iteN ck ?_
        rw [ck] at q
        exact q _ (s1.trans s2)
end
-- Gd
/-- the kind of a run -/
def Dat.key (d : Dat) : Str := match d.two with
  | some (.str z, _) => z
  | _ => ""
def keyAt (l : List Dat) (i : Nat) : Str := match l[i]? with
  | some d => d.key
  | none => ""
def stepB (l : List Dat) (i : Nat) : Bool := !decide (V.str (keyAt l i) = V.str (keyAt l (i + 1)))
def Dat.seq (d : Dat) : Bool := match d.parts with
  | some l => decide ((l.length : Int) ≤ 400) && (l.all Dat.run && ((List.range (l.length - 1)).map (stepB l)).all id)
  | none => false
def Dat.fits (d : Dat) : Prop := ∀ l, d.parts = some l → l.length ≤ 100000 ∧ ∀ x ∈ l, x.fit2
theorem run_two {d : Dat} (h : d.run = true) : ∃ z y, d.two = some (.str z, y) ∧ d.key = z := by
  unfold Dat.run at h
  cases ht : d.two with
  | none => rw [ht] at h; cases h
  | some p =>
    obtain ⟨x, y⟩ := p
    rw [ht] at h
    have h : (x.kind && y.inI 1 1000000000000000000000000000000) = true := h
    cases x with
    | str z => exact ⟨z, y, rfl, by unfold Dat.key; rw [ht]⟩
    | _ => cases h
theorem range_snoc {α : Type} (f : Nat → α) (i : Nat) : (List.range (i + 1)).map f = (List.range i).map f ++ [f i] := by
  rw [List.range_succ, List.map_append]
  rfl
section
variable {P : Program} {w : World} {K : PySem.W.Frag} {mg : Str → Option Value} {base : Heap}
def spD_is_sequence : Sp := fun vs H Q _ => ∃ (v : V) (d : Dat), vs = [v] ∧ Rp H v d ∧ d.fits ∧ ∀ H', Same H H' → Q (.bl d.seq) H'
theorem okD_is_sequence (D : Df K mg "is_sequence" s_is_sequence) (T : Tx mg) (G_is_listed : Has P w K mg base 1 "is_listed" ["value", "most"] spD_is_listed) (G_is_run : Has P w K mg base 3 "is_run" ["value"] spD_is_run) :
    Has P w K mg base 4 "is_sequence" ["value"] spD_is_sequence := by
  refine has_of D sc_is_sequence (fun _ _ _ _ _ _ us hl => match us, hl with | [_], _ => rfl) (fun vs H Q E h => ?_) (fun f cdv A outer s H vs Q E hr h => ?_)
  · obtain ⟨v, r, rfl, _⟩ := h
    rfl
  · obtain ⟨v, d, rfl, hv, fit, q⟩ := h
    refine ⟨_, (pss_cons (ps_if (PW.pt (pw_or (pt_not (pt_val (pe_callH G_is_listed (hr.mono (by omega)) (by rfl) (pa_cons (pv 0) (pa_cons (pe_glI T.c_MAX_RUNS (by rfl)) pa_nil))))) (pw_or1 (pt_not (pt_val (pe_callB (cr_all rfl) (by rfl) T.n_all (by decide +kernel) (pa_cons (pe_lc (own := [("run", 1)]) rfl sc_is_sequence.nd (pi_seqV 0) (blkOk_by (N := ["value", "run", "following"]) (sc := defScope s_is_sequence) (by decide +kernel)) (fun _ _ _ _ _ => (pg_name (i := 1) sc_is_sequence.nd rfl (by first | exact Or.inl rfl | exact Or.inr rfl))) (fun _ _ _ _ _ => pts_nil) (fun _ _ _ _ _ => (pe_callH G_is_run (hr.mono (by omega)) (by rfl) (pa_cons (pv 1) pa_nil)))) pa_nil))))))) (pss_one (ps_ret pe_bl)) pss_nil)
    (pss_one (ps_ret (pe_callB (cr_all rfl) (by rfl) T.n_all (by decide +kernel) (pa_cons (pe_lc (own := [("run", 1), ("following", 2)]) rfl sc_is_sequence.nd (pi_zip1 (i := 0) (RZ.pi_zipA (by rfl) T.n_zip (pa_cons (pv 0) (pa_cons (pe_slice (SlR.or sl_list sl_tupA) (pv 0) (po_some pe_int) po_none) pa_nil))) (fun _ _ _ q => ⟨1, rfl, q⟩) (fun _ _ _ q => q)) (blkOk_by (N := ["value", "run", "following"]) (sc := defScope s_is_sequence) (by decide +kernel)) (fun _ _ _ _ _ => (pg_tupK (K := K) (n := 2) rfl rfl (pgs_cons (pg_name (i := 1) sc_is_sequence.nd rfl (by first | exact Or.inl rfl | exact Or.inr rfl)) (pgs_cons (pg_name (i := 2) sc_is_sequence.nd rfl (by first | exact Or.inl rfl | exact Or.inr rfl)) pgs_nil)))) (fun _ _ _ _ _ => pts_nil) (fun _ _ _ _ _ => (pe_cmpR op_ne (pe_ix (ix_seqK (K := K) rfl) (pv 1) pe_int (fun _ _ => rfl)) (pe_ix (ix_seqK (K := K) rfl) (pv 2) pe_int (fun _ _ => rfl)) (nomark _)))) pa_nil))))), ?_⟩
    refine ⟨_, rfl, v, d, 400, rfl, hv, fun H1 s1 => ⟨_, rfl, ?_⟩⟩
    by_cases cl : d.listed 400 = true
    · refine iteN (by rw [cl]; rfl) ?_
      obtain ⟨l, hd⟩ : ∃ l, d.parts = some l := by
        cases hp : d.parts with
        | some l => exact ⟨l, rfl⟩
        | none =>
          unfold Dat.listed at cl
          rw [hp] at cl
          cases cl
      obtain ⟨a, xs, rfl, hx, hp⟩ := hv.seq hd
      have lx : xs.length = l.length := Paired.len hp
      obtain ⟨l5, fit⟩ := fit l hd
      have l4 : (l.length : Int) ≤ 400 := by
        unfold Dat.listed at cl
        rw [hd] at cl
        exact of_decide_eq_true cl
      have e0 : d.seq = (l.all Dat.run && ((List.range (l.length - 1)).map (stepB l)).all id) := by
        unfold Dat.seq
        rw [hd]
        show (decide _ && _) = _
        rw [decide_eq_true l4]
        rfl
      rw [e0] at q
      refine ⟨a, xs, rfl, hx.same s1, fun J wk L nL => lc_wk wk (fun i H' => Same H1 H' ∧ H' L = some (.lst (((l.take i).map Dat.run).map V.bl))) (fun _ _ p => p.1) ⟨same_upd nL, upd_same⟩ (fun i x H2 ex p => ?_) (fun H2 p => ?_)⟩
      · obtain ⟨sm, hL⟩ := p
        obtain ⟨r, er, hr1⟩ := Paired.at hp ex
        have hi : i < xs.length := (List.getElem?_eq_some_iff.mp ex).1
        refine ⟨rfl, yesT ⟨_, rfl, x, r, rfl, hr1.same (s1.trans sm), fit r (List.mem_of_getElem? er), fun H3 s3 => ⟨_, s3 _ _ hL, ?_, same_grow nL (sm.trans s3), ?_⟩⟩⟩
        · simp only [List.length_map, List.length_take]
          exact small (by omega)
        · rw [upd_same, take_snoc er, List.map_append, List.map_append]
          rfl
      · rw [lx, List.take_length] at p
        refine ⟨L, _, rfl, .of p.2, _, rfl, ?_⟩
        rw [all_map]
        have s2 : Same H H2 := s1.trans p.1
        by_cases ca : l.all Dat.run = true
        · rw [ca] at q
          refine iteN (by rw [ca]; rfl) ?_
          have rok : ∀ (i : Nat) (x : Dat), l[i]? = some x → x.run = true := fun i x h => List.all_eq_true.mp ca x (List.mem_of_getElem? h)
          refine ⟨a, xs, rfl, hx.same s2, fun J Hc sc wk M nM => ?_⟩
          have sA : Same H Hc := s2.trans sc
          refine lc_gen (n := xs.length - 1) (fun i H' => Same Hc H' ∧ H' M = some (.lst (((List.range i).map (stepB l)).map V.bl))) ⟨same_upd nM, upd_same⟩ (fun i H' hi p => wk.go i H' p.1 (by omega)) (fun H' p => wk.stop H' p.1) (fun i x H3 H4 hi p y => ?_) (fun H' p => ?_)
          · obtain ⟨T', x1, x2, rfl, nT, rfl, g1, g2⟩ := wk.yld i x H3 H4 p.1 y
            obtain ⟨sm, hM⟩ := p
            have g2 := g2 (by omega)
            have sB : Same H H3 := sA.trans sm
            obtain ⟨r1, e1, v1⟩ := Paired.at hp g1
            obtain ⟨r2, e2, v2⟩ := Paired.at hp g2
            obtain ⟨z1, y1, t1, k1⟩ := run_two (rok _ _ e1)
            obtain ⟨z2, y2, t2, k2⟩ := run_two (rok _ _ e2)
            obtain ⟨a1, u1, u1', rfl, w1, m1, _⟩ := (v1.same (sB.trans (same_upd (o := .tup [x1, x2]) nT))).two t1
            obtain ⟨a2, u2, u2', rfl, w2, m2, _⟩ := (v2.same (sB.trans (same_upd (o := .tup [_, x2]) nT))).two t2
            cases m1
            cases m2
            refine ⟨T', _, rfl, .of upd_same, rfl, _, _, rfl, _, _, rfl, rfl, rfl, yesT ?_⟩
            refine ⟨_, rfl, ix0 w1 ⟨_, rfl, ix0 w2 ⟨rfl, _, same_upd nT _ _ hM, ?_, same_grow nM (sm.trans (same_upd nT)), ?_⟩⟩⟩
            · simp only [List.length_map, List.length_range]
              exact small (by omega)
            · rw [upd_same, range_snoc, List.map_append]
              have eb : stepB l i = !decide (V.str z1 = V.str z2) := by
                unfold stepB keyAt
                rw [e1, e2]
                show (!decide (V.str r1.key = V.str r2.key)) = _
                rw [k1, k2]
              rw [← eb]
              rfl
          · refine ⟨M, _, rfl, .of p.2, ?_⟩
            rw [lx]
            exact q _ (sA.trans p.1)
        · have ca : l.all Dat.run = false := by simpa using ca
          rw [ca] at q
          exact iteP (by rw [ca]; rfl) (q _ s2)
    · have cl : d.listed 400 = false := by simpa using cl
      have e0 : d.seq = false := by
        unfold Dat.listed at cl
        unfold Dat.seq
        cases hp : d.parts with
        | none => rfl
        | some l =>
          rw [hp] at cl
          have cl : decide ((l.length : Int) ≤ 400) = false := cl
          show (decide _ && _) = false
          rw [cl]
          rfl
      rw [e0] at q
      exact iteP (by rw [cl]; rfl) (q _ s1)
end
-- Ge
/-! ### functions that may raise -/
section
variable (P : Program) (w : World) (K : PySem.W.Frag) (mg : Str → Option Value) (base : Heap)
def HasX (k : Nat) (x : Str) (ps : List Str) (sp : Sp) : Prop :=
  ∃ f fd, mg x = some (.ref f) ∧ PySem.W.keepIn K (.ref f) = true ∧ Binds K fd ps [] ∧ FnOk P w K mg base (L2.CX P w) k f fd ps sp
end
/-- the class x of errors stands at C -/
structure Ex (K : PySem.W.Frag) (mg : Str → Option Value) (x : Str) (C : Addr) : Prop where
  g : mg x = some (.ref C)
  x : PySem.W.excIn K C [.type "ValueError", .type "Exception", .type "BaseException", .type "object"] "ValueError.__new__" = true
  k : PySem.W.keepIn K (.ref C) = true
  b : PySem.W.subIn K (.ref C) (.type "BaseException") = some true
  t : PySem.W.typeIn K (.ref C) = some (.type "type")
/-! ### values that are runs, sequences, states -/
def Dat.rr (d : Dat) : Run := match d.two with
  | some (.str z, .int n) => (z, n)
  | _ => ("", 0)
def Dat.stt (d : Dat) : Option Run := match d with
  | .non => none
  | d => some d.rr
def Dat.runs (d : Dat) : List Run := match d.parts with
  | some l => l.map Dat.rr
  | none => []
theorem kind_ok {z : Str} (h : kindB z = true) : KindOk z := by
  unfold kindB at h
  have h := Bool.and_eq_true_iff.mp h
  have h1 := of_decide_eq_true h.1
  refine ⟨by omega, by omega, fun c hc => ?_⟩
  exact of_decide_eq_true (List.all_eq_true.mp h.2 c hc)
theorem run_str {d : Dat} (h : d.run = true) : ∃ z n, d.two = some (.str z, .int n) ∧ d.rr = (z, n) ∧ d.key = z ∧ KindOk z ∧ 1 ≤ n ∧ n ≤ 1000000000000000000000000000000 := by
  obtain ⟨z, y, ht, hk⟩ := run_two h
  unfold Dat.run at h
  rw [ht] at h
  have h := Bool.and_eq_true_iff.mp (show (kindB z && y.inI 1 1000000000000000000000000000000) = true from h)
  cases y with
  | int n =>
    have h2 : 1 ≤ n ∧ n ≤ 1000000000000000000000000000000 := of_decide_eq_true h.2
    exact ⟨z, n, ht, by unfold Dat.rr; rw [ht], hk, kind_ok h.1, h2.1, h2.2⟩
  | _ => cases h.2
theorem run_rp {H : Hp} {v : V} {d : Dat} (hv : Rp H v d) (h : d.run = true) : RunG H v d.rr ∧ RunOk d.rr := by
  obtain ⟨z, n, ht, hr, _, k, n1, n2⟩ := run_str h
  obtain ⟨a, vx, vy, rfl, hs, hx, hy⟩ := hv.two ht
  cases hx
  cases hy
  rw [hr]
  exact ⟨⟨a, rfl, hs⟩, k, n1, n2⟩
theorem seq_rp {H : Hp} {v : V} {d : Dat} (hv : Rp H v d) (h : d.seq = true) : RunsG H v d.runs ∧ SeqOk d.runs := by
  cases hd : d.parts with
  | none =>
    unfold Dat.seq at h
    rw [hd] at h
    cases h
  | some l =>
    unfold Dat.seq at h
    rw [hd] at h
    have h := Bool.and_eq_true_iff.mp (show (decide ((l.length : Int) ≤ 400) && (l.all Dat.run && ((List.range (l.length - 1)).map (stepB l)).all id)) = true from h)
    have h1 := of_decide_eq_true h.1
    have h2 := Bool.and_eq_true_iff.mp h.2
    have er : d.runs = l.map Dat.rr := by unfold Dat.runs; rw [hd]
    rw [er]
    obtain ⟨a, xs, rfl, hx, hp⟩ := hv.seq hd
    have ra : ∀ x ∈ l, x.run = true := fun x hx => List.all_eq_true.mp h2.1 x hx
    have pair : ∀ {xs : List V} {l : List Dat}, Paired (Rp H) xs l → (∀ x ∈ l, x.run = true) → Paired (RunG H) xs (l.map Dat.rr) := by
      intro xs l hp
      induction hp with
      | nil => intro _; exact .nil
      | cons h _ ih =>
        intro k
        exact .cons (run_rp h (k _ (List.mem_cons_self ..))).1 (ih fun x hx => k x (List.mem_cons_of_mem _ hx))
    refine ⟨⟨a, xs, rfl, hx, pair hp ra⟩, by rw [List.length_map]; omega, fun r hr => ?_, fun i x y ex ey => ?_⟩
    · obtain ⟨e, he, rfl⟩ := List.mem_map.mp hr
      obtain ⟨z, n, _, hr, _, k, n1, n2⟩ := run_str (ra e he)
      rw [hr]
      exact ⟨k, n1, n2⟩
    · rw [List.getElem?_map] at ex ey
      cases e1 : l[i]? with
      | none => rw [e1] at ex; cases ex
      | some p =>
        cases e2 : l[i + 1]? with
        | none => rw [e2] at ey; cases ey
        | some p2 =>
          rw [e1] at ex
          rw [e2] at ey
          cases ex
          cases ey
          have hi : i < l.length - 1 := by
            have := (List.getElem?_eq_some_iff.mp e2).1
            omega
          have st := List.all_eq_true.mp h2.2 (stepB l i) (List.mem_map.mpr ⟨i, List.mem_range.mpr hi, rfl⟩)
          obtain ⟨z1, n1, _, r1, k1, _⟩ := run_str (ra p (List.mem_of_getElem? e1))
          obtain ⟨z2, n2, _, r2, k2, _⟩ := run_str (ra p2 (List.mem_of_getElem? e2))
          unfold stepB keyAt at st
          rw [e1, e2] at st
          have st : (!decide (V.str p.key = V.str p2.key)) = true := st
          rw [k1, k2] at st
          rw [r1, r2]
          intro z
          have z : z1 = z2 := z
          rw [z, decide_eq_true rfl] at st
          cases st
theorem state_rp {H : Hp} {v : V} {d : Dat} (hv : Rp H v d) (h : d.state = true) : StG H v d.stt ∧ ∀ r, d.stt = some r → KindOk r.1 ∧ 1 ≤ r.2 := by
  by_cases dn : d = .non
  · subst dn
    cases hv
    exact ⟨rfl, fun r hr => by cases hr⟩
  have e0 : d.state = match d.two with
    | some (x, y) => x.kind && y.pos
    | none => false := by
    cases d with
    | non => exact absurd rfl dn
    | _ => rfl
  have e1 : d.stt = some d.rr := by
    cases d with
    | non => exact absurd rfl dn
    | _ => rfl
  rw [e0] at h
  rw [e1]
  cases ht : d.two with
  | none => rw [ht] at h; cases h
  | some p =>
    obtain ⟨x, y⟩ := p
    rw [ht] at h
    have h := Bool.and_eq_true_iff.mp (show (x.kind && y.pos) = true from h)
    obtain ⟨a, vx, vy, rfl, hs, hx, hy⟩ := hv.two ht
    cases hx with
    | str z =>
      cases hy with
      | int n =>
        have er : d.rr = (z, n) := by unfold Dat.rr; rw [ht]
        rw [er]
        exact ⟨⟨a, rfl, hs⟩, fun r hr => by cases hr; exact ⟨kind_ok h.1, of_decide_eq_true h.2⟩⟩
      | _ => cases h.2
    | _ => cases h.1
section
variable {P : Program} {w : World} {K : PySem.W.Frag} {mg : Str → Option Value} {base : Heap}
theorem hasX_of {x : Str} {st : Stmt} {ps N : List Str} {k : Nat} {sp : Sp} (D : Df K mg x st) (S : FnScope N ps (defScope st))
    (hb : ∀ (kV doc pm : Value) (an : Option Addr) (cdv ct : Value) (us : List Value), us.length = ps.length → bindArgs (PySem.W.fnOf x x (defArgs st) (defBody st) (defScope st) .none kV doc pm an cdv ct) ⟨us, []⟩ = pure (ps.zip us))
    (len : ∀ vs H Q E, sp vs H Q E → vs.length = ps.length)
    (body : ∀ (f : Addr) (cdv : Value) (A : Around) (outer : List Env) (s : Shared) (H : Hp) (vs : List V) (Q : VK) (E : XK), Room k (A.deeper (envOfC x (defScope st) s.heap.objs.size f cdv)) → sp vs H Q E →
      ∃ t, PSs (cxOf (L2.CX P w) P w K mg base N x (defScope st) f cdv A outer s H E) (defBody st) t ∧ t { nx := fun _ H' => Q .non H', rt := Q } (start N vs) H) :
    HasX P w K mg base (k + 1) x ps sp := by
  obtain ⟨f, fd, g, F⟩ := D
  exact ⟨f, fd, g, F.kp, F.binds hb, F.okX S len fun cdv A outer s H vs Q E hr h => body f cdv A outer s H vs Q E hr h⟩
end
-- Gf
section
variable {P : Program} {w : World} {K : PySem.W.Frag} {mg : Str → Option Value} {base : Heap}
def spX_checked_runs (C : Addr) : Sp := fun vs H Q E => ∃ (v : V) (d : Dat), vs = [v] ∧ Rp H v d ∧ d.fits ∧ (d.seq = true → ∀ H' p, Same H H' → H p = none → Runs H' p d.runs → Q (.ref p) H') ∧ (d.seq = false → ∀ H', Same H H' → E (.ref C) none H')
theorem okX_checked_runs {C : Addr} (D : Df K mg "checked_runs" s_checked_runs) (T : Tx mg) (X1 : Ex K mg "InvalidSequence" C) (G_is_sequence : Has P w K mg base 4 "is_sequence" ["value"] spD_is_sequence) :
    HasX P w K mg base 5 "checked_runs" ["sequence"] (spX_checked_runs C) := by
  refine hasX_of D sc_checked_runs (fun _ _ _ _ _ _ us hl => match us, hl with | [_], _ => rfl) (fun vs H Q E h => ?_) (fun f cdv A outer s H vs Q E hr h => ?_)
  · obtain ⟨v, r, rfl, _⟩ := h
    rfl
  · obtain ⟨v, d, rfl, hv, fit, q, qe⟩ := h
    refine ⟨_, (pss_cons (ps_if (pt_not (pt_val (pe_callH G_is_sequence (hr.mono (by omega)) (by rfl) (pa_cons (pv 0) pa_nil)))) (pss_one (ps_raise rfl (takes_of rfl rfl rfl rfl) (pmk_own PySem.F.excBase_ValueError X1.x X1.g X1.k (raises_own X1.b X1.t) (by exact rfl)))) pss_nil)
    (pss_one (ps_ret (pe_lc (own := [("kind", 1), ("count", 2)]) rfl sc_checked_runs.nd (pi_seqV 0) (blkOk_by (N := ["sequence", "kind", "count"]) (sc := defScope s_checked_runs) (by decide +kernel)) (fun _ _ _ _ _ => (pg_any (n := 2) rfl (pgs_cons (pg_name (i := 1) sc_checked_runs.nd rfl (by first | exact Or.inl rfl | exact Or.inr rfl)) (pgs_cons (pg_name (i := 2) sc_checked_runs.nd rfl (by first | exact Or.inl rfl | exact Or.inr rfl)) pgs_nil)))) (fun _ _ _ _ _ => pts_nil) (fun _ _ _ _ _ => (pe_tup (pa_cons (pv 1) (pa_cons (pv 2) pa_nil)))))))), ?_⟩
    refine ⟨_, rfl, v, d, rfl, hv, fit, fun H1 s1 => ⟨_, rfl, ?_⟩⟩
    by_cases cs : d.seq = true
    · refine iteN (by rw [cs]; rfl) ?_
      have q := q cs
      obtain ⟨hR, ok⟩ := seq_rp hv cs
      generalize d.runs = rs at *
      obtain ⟨a, xs, rfl, hx, hp⟩ := hR
      have lx : xs.length = rs.length := Paired.len hp
      refine ⟨a, xs, rfl, hx.same s1, fun J wk L nL => lc_wk wk (fun i H' => Same H1 H' ∧ ∃ ys, H' L = some (.lst ys) ∧ Paired (RunV H') ys (rs.take i)) (fun _ _ p => p.1) ⟨same_upd nL, [], upd_same, .nil⟩ (fun i x H2 ex p => ?_) (fun H2 p => ?_)⟩
      · obtain ⟨sm, ys, hL, hy⟩ := p
        obtain ⟨r, er, hr1⟩ := Paired.at hp ex
        have hi : i < xs.length := (List.getElem?_eq_some_iff.mp ex).1
        obtain ⟨t, rfl, ht⟩ := RunG.same (s1.trans sm) hr1
        refine ⟨t, _, rfl, ht, rfl, _, _, rfl, _, _, rfl, rfl, rfl, yesT ⟨_, rfl, _, rfl, (by show 2 ≤ sizeLine; decide), fun n nn => ⟨_, same_upd nn _ _ hL, ?_, same_grow nL (sm.trans (same_upd nn)), _, upd_same, ?_⟩⟩⟩
        · have := Paired.len hy
          rw [List.length_take] at this
          exact small (by have := ok.1; omega)
        · rw [take_snoc er]
          refine Paired.app (prs_grow (same_upd nn _ _ hL) (prs_same (same_upd nn) hy)) (.cons ?_ .nil)
          exact RunV.grow (same_upd nn _ _ hL) ⟨n, rfl, upd_same⟩
      · obtain ⟨sm, ys, hL, hy⟩ := p
        rw [lx, List.take_length] at hy
        exact q H2 L (s1.trans sm) (s1.free nL) ⟨ys, hL, hy⟩
    · have cs : d.seq = false := by simpa using cs
      exact iteP (by rw [cs]; rfl) (qe cs _ s1)
end
end UP

set_option Elab.async false
set_option linter.all false
set_option maxRecDepth 100000
set_option maxHeartbeats 4000000
namespace UP
open PySem PySem.Spec PyProof.Rows L2
/-! ### repr of values that hold an empty dict -/
mutual
def Dat.py : Dat → PyData
  | .non => .none
  | .bl b => .bool b
  | .int n => .int n
  | .str z => .str z
  | .dic => .dict []
  | .lst l => .list (Dat.pys l)
  | .tup l => .tuple (Dat.pys l)
def Dat.pys : List Dat → List PyData
  | [] => []
  | x :: t => x.py :: Dat.pys t
end
def RpK (prog : Program) (w : World) (h : Heap) (u : Value) (d : PyData) : Prop :=
  (∃ as, Reads h u d as) ∧ (d.showable = true → d.shown.length ≤ sizeLine → ∃ bs, ReadAtMost h d.depth bs ∧ ReprK prog w bs h d.depth u d.shown)
def RpKs (prog : Program) (w : World) (h : Heap) (us : List Value) (ds : List PyData) : Prop :=
  (∃ as, ReadsAll h us ds as) ∧ (PyData.showableAll ds = true → (∀ t ∈ PyData.shownAll ds, t.length ≤ sizeLine) → ∃ bs, ReadAtMost h (PyData.depthAll ds) bs ∧ ReprAllK prog w bs h (PyData.depthAll ds) us (PyData.shownAll ds))
theorem dic_reads {X : Cx} {pins : List (Addr × Obj)} {σ : L2.St} {H : Hp} {s : Shared} {a : Addr} (I : Inv X pins σ H s) (e : H a = some (.dK [])) : ∃ o n, s.heap.get? a = some o ∧ o.cls = .type "dict" ∧ o.data = .dict #[] n ∧ (a == sysModules) = false := by
  obtain ⟨_, hs, vs, kv, o, es, ep, ho, ex, hd, _, hp, _⟩ := dk_of I.hok e
  cases kv
  obtain ⟨l⟩ := es
  have hp : Pairs (mixKind X.prog X.w) l [] := hp
  cases l with
  | nil => exact ⟨o, ep, ho, ex.1, hd, hs⟩
  | cons x t => cases hp
theorem RpKs.cons {prog : Program} {w : World} {h : Heap} {u : Value} {us : List Value} {d : PyData} {ds : List PyData} (h1 : RpK prog w h u d) (h2 : RpKs prog w h us ds) : RpKs prog w h (u :: us) (d :: ds) := by
  obtain ⟨⟨as, r⟩, k1⟩ := h1
  obtain ⟨⟨bs, rs⟩, k2⟩ := h2
  refine ⟨⟨_, .cons r rs⟩, fun hs hz => ?_⟩
  have hs' : d.showable = true ∧ PyData.showableAll ds = true := by simpa [PyData.showableAll] using hs
  obtain ⟨b1, hb1, k1⟩ := k1 hs'.1 (hz _ (by simp only [PyData.shownAll]; exact List.mem_cons_self ..))
  obtain ⟨b2, hb2, k2⟩ := k2 hs'.2 (fun t ht => hz t (by simp only [PyData.shownAll]; exact List.mem_cons_of_mem _ ht))
  refine ⟨b1 ++ b2, ?_, ?_⟩
  · simp only [PyData.depthAll]
    exact (hb1.mono (Nat.le_max_left _ _)).append (hb2.mono (Nat.le_max_right _ _))
  · simp only [PyData.depthAll, PyData.shownAll]
    exact .cons ((k1.more fun b hb => List.mem_append_left _ hb).level_le (Nat.le_max_left _ _)) (k2.more_le (fun b hb => List.mem_append_right _ hb) (Nat.le_max_right _ _))
theorem RpK.list {prog : Program} {w : World} {h : Heap} {a : Addr} {o : Obj} {its : List Value} {n : Nat} {ds : List PyData} (h1 : h.get? a = some o) (h2 : o.cls = .type "list") (h3 : o.data = .seq its.toArray n) (k : RpKs prog w h its ds) : RpK prog w h (.ref a) (.list ds) := by
  obtain ⟨⟨as, h4⟩, k⟩ := k
  have r : Reads h (.ref a) (.list ds) _ := .list h1 h2 h3 h4
  refine ⟨⟨_, r⟩, fun hs hz => ?_⟩
  have hz' : (listText (PyData.shownAll ds)).length ≤ sizeLine := by simpa only [PyData.shown] using hz
  obtain ⟨bs, hb, hk⟩ := k (by simpa [PyData.showable] using hs) (fun t ht => Nat.le_trans (listText_mem_le ht) hz')
  have hna : a ∉ bs := not_mem_of_deeper r (by simp only [PyData.depth]; omega) hb
  refine ⟨a :: bs, ReadAtMost.cons r (by simp only [PyData.depth]; omega) hb, ?_⟩
  simp only [PyData.depth, PyData.shown]
  cases its with
  | nil =>
    have h4' : ReadsAll h [] ds _ := h4
    cases h4'
    simp only [PyData.shownAll, listText_nil]
    exact ReprK.listEmpty h1 h2 h3
  | cons x l => exact ReprK.list h1 h2 h3 hna (by simpa using hk.length_eq) (fun i y e => hk.item i y (by simpa using e))
theorem RpK.tuple {prog : Program} {w : World} {h : Heap} {a : Addr} {o : Obj} {its : List Value} {n : Nat} {ds : List PyData} (h1 : h.get? a = some o) (h2 : o.cls = .type "tuple") (h3 : o.data = .seq its.toArray n) (k : RpKs prog w h its ds) : RpK prog w h (.ref a) (.tuple ds) := by
  obtain ⟨⟨as, h4⟩, k⟩ := k
  have r : Reads h (.ref a) (.tuple ds) _ := .tuple h1 h2 h3 h4
  refine ⟨⟨_, r⟩, fun hs hz => ?_⟩
  have hz' : (tupleText (PyData.shownAll ds)).length ≤ sizeLine := by simpa only [PyData.shown] using hz
  obtain ⟨bs, hb, hk⟩ := k (by simpa [PyData.showable] using hs) (fun t ht => Nat.le_trans (tupleText_mem_le ht) hz')
  have hna : a ∉ bs := not_mem_of_deeper r (by simp only [PyData.depth]; omega) hb
  refine ⟨a :: bs, ReadAtMost.cons r (by simp only [PyData.depth]; omega) hb, ?_⟩
  simp only [PyData.depth, PyData.shown]
  exact ReprK.tuple h1 h2 h3 hna hk
theorem RpK.dict {prog : Program} {w : World} {h : Heap} {a : Addr} {o : Obj} {n : Nat} (h1 : h.get? a = some o) (h2 : o.cls = .type "dict") (h3 : o.data = .dict #[] n) (hs : (a == sysModules) = false) : RpK prog w h (.ref a) (.dict []) := by
  have r : Reads h (.ref a) (.dict []) _ := .dict h1 h2 h3 .nil .nil
  refine ⟨⟨_, r⟩, fun _ _ => ⟨[a], ?_, ?_⟩⟩
  · intro b hb
    rw [List.mem_singleton.mp hb]
    exact ⟨_, _, r, Nat.le_refl _⟩
  · exact ReprK.dict h1 h2 h3 hs (fun z => by cases z) .nil
theorem Rp.reprK {X : Cx} {pins : List (Addr × Obj)} {σ : L2.St} {H : Hp} {s : Shared} (I : Inv X pins σ H s) {v : V} {d : Dat} (h : Rp H v d) : ∀ u, RelV v u → RpK X.prog X.w s.heap u d.py := by
  refine Rp.rec (motive_1 := fun v d _ => ∀ u, RelV v u → RpK X.prog X.w s.heap u d.py) (motive_2 := fun xs l _ => ∀ us, Vals xs us → RpKs X.prog X.w s.heap us (Dat.pys l)) ?_ ?_ ?_ ?_ ?_ ?_ ?_ ?_ ?_ h
  · intro u r
    cases r
    exact ⟨⟨_, .none⟩, fun hs hz => ReprK.of_reads .none hs (fun z => by cases z) hz⟩
  · intro b u r
    cases r
    exact ⟨⟨_, .bool b⟩, fun hs hz => ReprK.of_reads (.bool b) hs (fun z => by cases z) hz⟩
  · intro n u r
    obtain ⟨t, rfl⟩ := r
    exact ⟨⟨_, .int n t⟩, fun hs hz => ReprK.of_reads (.int n t) hs (fun z => by cases z) hz⟩
  · intro n u r
    obtain ⟨t, rfl⟩ := r
    exact ⟨⟨_, .str n t⟩, fun hs hz => ReprK.of_reads (.str n t) hs (fun z => by cases z) hz⟩
  · intro a e u r
    cases r
    obtain ⟨o, n, h1, h2, h3, h4⟩ := dic_reads I e
    exact RpK.dict h1 h2 h3 h4
  · intro a xs l e _ ih u r
    cases r
    obtain ⟨its, rv, ⟨o, n, ho, hc, _, hd⟩, _⟩ := I.list (SqL.of e)
    exact RpK.list ho hc hd (ih its rv)
  · intro a xs l e _ ih u r
    cases r
    obtain ⟨its, rv, ⟨o, ho, hc, n, hd⟩, _⟩ := I.tuple (SqT.of e)
    exact RpK.tuple ho hc hd (ih its rv)
  · intro us r
    cases r
    exact ⟨⟨_, .nil⟩, fun _ _ => ⟨[], (fun _ h => nomatch h), by simp only [Dat.pys, PyData.shownAll]; exact .nil⟩⟩
  · intro x y xs ys _ _ h1 h2 us r
    cases r with
    | cons r1 r2 => exact RpKs.cons (h1 _ r1) (h2 _ r2)
/-- repr(xs), xs a list or a tuple of such values -/
def rReprR : List V → Hp → VK → Prop := fun xs H Q => ∃ (a : Addr) (d : Dat), xs = [.ref a] ∧ Rp H (.ref a) d ∧ d.py.showable = true ∧ d.py.depth ≤ 64 ∧ d.py.shown.length ≤ sizeLine ∧ Q (.str d.py.shown) H
theorem call_reprR {X : Cx} (hg : X.A.guards = some []) (hu : X.A.units + 70 < cLine) : CallR X (.builtin "repr") rReprR := by
  intro pins s σ H xs us Q I r h
  obtain ⟨a, d, rfl, hr, sh, dp, sz, q⟩ := h
  obtain ⟨u, rfl, ru⟩ := vals1 r
  cases (show u = Value.ref a from ru)
  have fin : ∀ h' u tk, (∀ b o, s.heap.get? b = some o → h'.get? b = some o) → EP X pins σ Q (.str d.py.shown u) { s with heap := h', toks := tk } := fun h' u tk hk => ⟨.str d.py.shown, H, I.kept (t' := tk) hk, ⟨u, rfl⟩, q⟩
  cases hr with
  | dic e =>
    obtain ⟨o, n, h1, h2, h3, h4⟩ := dic_reads I e
    have rd : Reads s.heap (.ref a) (.dict []) _ := .dict h1 h2 h3 .nil .nil
    exact repr_of_reads' rd sh (fun _ z => by
      have z : sysModules ∈ [a] := z
      rw [List.mem_singleton.mp z] at h4
      simp at h4) hg (by show X.A.units + ((PyData.dict []).depth + 1) < cLine; have : (PyData.dict []).depth ≤ 64 := dp; omega) (fun _ _ e => e) fin sz
  | @lst _ xs l e hp =>
    obtain ⟨its, rv, ⟨o, n, ho, hc, _, hd⟩, _⟩ := I.list (SqL.of e)
    have all : ∀ {xs : List V} {l : List Dat}, Paired (Rp H) xs l → ∀ us, Vals xs us → RpKs X.prog X.w s.heap us (Dat.pys l) := by
      intro xs l hp
      induction hp with
      | nil =>
        intro us r
        cases r
        exact ⟨⟨_, .nil⟩, fun _ _ => ⟨[], (fun _ h => nomatch h), by simp only [Dat.pys, PyData.shownAll]; exact .nil⟩⟩
      | cons h1 _ ih =>
        intro us r
        cases r with
        | cons r1 r2 => exact RpKs.cons (h1.reprK I _ r1) (ih _ r2)
    have k := all hp its rv
    obtain ⟨⟨as, h4⟩, k⟩ := k
    have sz' : (listText (PyData.shownAll (Dat.pys l))).length ≤ sizeLine := by simpa only [Dat.py, PyData.shown] using sz
    obtain ⟨bs, hb, hk⟩ := k (by simpa [Dat.py, PyData.showable] using sh) (fun t ht => Nat.le_trans (listText_mem_le ht) sz')
    have r : Reads s.heap (.ref a) (.list (Dat.pys l)) _ := .list ho hc hd h4
    have hna : a ∉ bs := not_mem_of_deeper r (by simp only [PyData.depth]; omega) hb
    have dp' : PyData.depthAll (Dat.pys l) + 1 ≤ 64 := by simpa only [Dat.py, PyData.depth] using dp
    simp only [Dat.py, PyData.shown] at fin
    refine call_repr_slot (by omega) ⟨o, ho, hc⟩ F.slot_list_repr.toG ?_
    cases its with
    | nil =>
      have h4' : ReadsAll s.heap [] (Dat.pys l) _ := h4
      cases hl : Dat.pys l with
      | nil =>
        rw [hl] at fin
        simp only [PyData.shownAll, listText_nil] at fin
        exact call_list_repr_empty ⟨o, ho, hc⟩ ho hd ⟨_, _, rfl, fin s.heap _ _ fun _ _ e => e⟩
      | cons x t =>
        rw [hl] at h4'
        cases h4'
    | cons x t =>
      exact call_list_reprK ho hc hd hna (by simpa using hk.length_eq) (fun i y e => hk.item i y (by simpa using e)) (g := []) hg (fun b _ => Clear.nil b) (by show X.A.units + 1 + _ < cLine; omega) (fun _ _ e => e) (fun h' u tk hk => ⟨_, _, rfl, fin h' u tk hk⟩) sz'
  | @tup _ xs l e hp =>
    obtain ⟨its, rv, ⟨o, ho, hc, n, hd⟩, _⟩ := I.tuple (SqT.of e)
    have all : ∀ {xs : List V} {l : List Dat}, Paired (Rp H) xs l → ∀ us, Vals xs us → RpKs X.prog X.w s.heap us (Dat.pys l) := by
      intro xs l hp
      induction hp with
      | nil =>
        intro us r
        cases r
        exact ⟨⟨_, .nil⟩, fun _ _ => ⟨[], (fun _ h => nomatch h), by simp only [Dat.pys, PyData.shownAll]; exact .nil⟩⟩
      | cons h1 _ ih =>
        intro us r
        cases r with
        | cons r1 r2 => exact RpKs.cons (h1.reprK I _ r1) (ih _ r2)
    have k := all hp its rv
    obtain ⟨⟨as, h4⟩, k⟩ := k
    have sz' : (tupleText (PyData.shownAll (Dat.pys l))).length ≤ sizeLine := by simpa only [Dat.py, PyData.shown] using sz
    obtain ⟨bs, hb, hk⟩ := k (by simpa [Dat.py, PyData.showable] using sh) (fun t ht => Nat.le_trans (tupleText_mem_le ht) sz')
    have r : Reads s.heap (.ref a) (.tuple (Dat.pys l)) _ := .tuple ho hc hd h4
    have hna : a ∉ bs := not_mem_of_deeper r (by simp only [PyData.depth]; omega) hb
    have dp' : PyData.depthAll (Dat.pys l) + 1 ≤ 64 := by simpa only [Dat.py, PyData.depth] using dp
    simp only [Dat.py, PyData.shown] at fin
    refine call_repr_slot (by omega) ⟨o, ho, hc⟩ F.slot_tuple_repr ?_
    exact call_tuple_reprK ho hc hd hna hk (g := []) hg (fun b _ => Clear.nil b) (by show X.A.units + 1 + _ < cLine; omega) (fun _ _ e => e) (fun h' u tk hk => ⟨_, _, rfl, fin h' u tk hk⟩) sz'
end UP

set_option Elab.async false
set_option linter.all false
set_option maxRecDepth 100000
set_option maxHeartbeats 4000000
namespace UP
open PySem PySem.Spec PyProof.Rows L2
/-! ### an exception that is kept beyond its clause -/
def ExD (cls : Value) (d : Option Addr) (a : Addr) : HO := .ext fun h => ∃ (oe : Obj) (vs : Array Value), h.get? a = some oe ∧ Zc cls d oe ∧ oe.data = .fields vs
/-- its own dict, if it has one, stands there -/
def DOk (H : Hp) (d : Option Addr) : Prop := ∀ dx, d = some dx → ∃ fs, H dx = some (.xd fs)
theorem DOk.same {H H' : Hp} {d : Option Addr} (h : DOk H d) (s : Same H H') : DOk H' d := fun dx e => by
  obtain ⟨fs, z⟩ := h dx e
  exact ⟨fs, s _ _ z⟩
theorem dok_none {H : Hp} : DOk H none := fun dx e => by cases e
theorem track {X : Cx} {pins : List (Addr × Obj)} {σ : L2.St} {H : Hp} {s : Shared} {a : Addr} {oe : Obj} {vs : Array Value} {cls : Value} {d : Option Addr} (I : Inv X pins σ H s) (na : H a = none) (ha : s.heap.get? a = some oe) (hz : Zc cls d oe) (hd : oe.data = .fields vs)
    (n0 : X.s_0.heap.get? a = none) (nL : a ≠ X.env.locals) (np : ∀ p ∈ X.pn ++ pins, p.1 ≠ a) : Inv X pins σ (upd H a (ExD cls d a)) s := by
  have k : ∀ b o, H b = some o → upd H a (ExD cls d a) b = some o := fun b o e => by
    rw [upd_ne (ne_of_none e na)]
    exact e
  refine ⟨I.ok, I.os, I.bare, ⟨I.base.keep, I.base.slot, fun b o e n hx => ?_, I.base.there, fun b xs e => k _ _ (I.base.tups b xs e), fun b o u e => k _ _ (I.base.frzs b o u e), fun b ps e => ?_⟩, I.loc, I.cell, ?_, fun x c e => ?_, fun p hp => ?_, HOk.laidN I.hok (fun _ _ e => e) na ?_, I.len⟩
  · have nb : b ≠ a := fun z => by
      rw [z, n0] at e
      cases e
    rw [upd_ne nb]
    exact I.base.free b o e n hx
  · obtain ⟨m, h⟩ := I.base.tbls b ps e
    exact ⟨m, k _ _ h⟩
  · rw [upd_ne nL.symm]
    exact I.free
  · have nb : c ≠ a := fun z => by
      obtain ⟨v, o, ho, hc⟩ := I.cell x c e
      rw [z, ha] at ho
      cases ho
      rw [hd] at hc
      cases hc
    rw [upd_ne nb]
    exact I.freeC x c e
  · obtain ⟨h1, h2, h3⟩ := I.pin p hp
    exact ⟨h1, by rw [upd_ne (np p hp)]; exact h2, h3⟩
  · exact ⟨⟨oe, vs, ha, hz, hd⟩, ⟨oe, ha⟩, fun _ _ ⟨o, v, q, r⟩ kk => ⟨o, v, kk o q, r⟩⟩
theorem sky_new {B : Heap} {l : List Env} {a L : Addr} {Z : Obj → Prop} {h : Heap} (s : Sky B l a Z L h) : B.get? a = none := by
  rcases s with s | s | s
  · exact s.2.1
  · exact s.2.1
  · exact s.2.1
/-- what 'except x as n: y = n' wishes of an exception of the body, one of x's always -/
def wKeep (K : PySem.W.Frag) (c : Value) (i j : Nat) (D : Ends) : WX := fun cls d σ H =>
  PySem.W.exmOne K cls c = some true ∧ ∀ a, H a = none → D.nx (((σ.set i (some (.ref a))).set j (some (.ref a))).set i none) (upd H a (ExD cls d a))
theorem ps_try_keep {X : Cx} {x n y : Str} {c : Value} {i j : Nat} {body : List Stmt} {np py pm ap pos pos' : Pos} {tb : WX → TS} (hs : X.stack = X.env :: X.outer) (hf : X.env.frame = some X.env.locals) (hN : X.N.Nodup) (hi : X.N[i]? = some n) (hln : X.env.kindOf n = some .local) (hc : Names X x c) (hx0 : X.ex = [])
    (hb : ∀ (W : WX) (pn : List (Addr × Obj)) (xe : Value → Shared → Prop), Takes (X.tr pn xe) W → PassesOwn (model X.prog X.w) X.A X.env xe → PSs (X.tr pn xe) body (tb W))
    (hsu : ∀ (a : Addr) (pn : List (Addr × Obj)), PSs (X.suite a pn) [.Assign [.Name y py] (.Name n pm) ap] (tAsg (tVar i) (gName j))) :
    PS X (.Try body [.ExceptHandler (some (.Name x np)) (some n) [.Assign [.Name y py] (.Name n pm) ap] pos'] [] [] pos) (fun D σ H => tb (wKeep X.K c i j D) D σ H) := by
  refine ⟨fun pins s σ H D I h => ?_⟩
  have ok := I.ok
  refine wpAny_Try_except (wpAny_mono ((hb (wKeep X.K c i j D) (X.pn ++ pins) _ (fun u s' xx => ?_) PassesOwn.looking).run [] s σ H D (I.toTry _) h) (fun f s1 hsp => ?_) (fun e s1 he => he))
  · obtain ⟨a, B, sI, pins', σ1, H1, cls, d, rfl, J0, nb, up, sky, na, os, ag, hexm, q⟩ := xx
    have J : Inv X pins σ1 H1 sI := J0.ofTry ok
    have sky : Sky B (X.env :: X.outer) a (Zc cls d) X.env.locals s'.heap := by
      rw [← hs]
      exact sky
    have fr : X.A.frames = some (X.env :: X.outer) := by rw [ok.frames, hs]
    show wpAny (model X.prog X.w) X.A (noteFrame (.ref a) X.env) _ _ _
    have nB := sky_new sky
    refine Sky.land Zc.steady fr hf sky fun h3 fl3 up3 => ?_
    have J3 : Inv X pins σ1 H1 { s' with heap := h3 } := J.landed nb fl3.1 (up.trans up3) os ag
    obtain ⟨o3, v3, e3, z3, d3⟩ := fl3.there
    have notFr : a ∉ frs (X.env :: X.outer) := fun hm => by
      obtain ⟨_, o, e, hnf⟩ := fl3.2.2.1.mem hm
      rw [e3] at e
      cases e
      exact hnf _ d3
    have nL : a ≠ X.env.locals := fun z => notFr (List.mem_filterMap.mpr ⟨X.env, List.mem_cons_self, by rw [hf, z]⟩)
    have nF : a ∉ X.fs := fun hm => by
      obtain ⟨e, he, r⟩ := List.mem_filterMap.mp hm
      exact notFr (List.mem_filterMap.mpr ⟨e, List.mem_cons_of_mem _ he, r⟩)
    have nI : sI.heap.get? a = none := by
      cases hI : sI.heap.get? a with
      | none => rfl
      | some o =>
        have := nb a o hI (by
          show a ∉ frs X.stack
          rw [hs]
          exact notFr)
        rw [nB] at this
        cases this
    have n0 : X.s_0.heap.get? a = none := by
      cases h0 : X.s_0.heap.get? a with
      | none => rfl
      | some o =>
        obtain ⟨o', e'⟩ := J.base.there a o h0 (by rw [hx0]; exact List.not_mem_nil)
        rw [nI] at e'
        cases e'
    have npn : ∀ p ∈ X.pn ++ pins, p.1 ≠ a := fun p hp z => by
      have := (J.pin p hp).1
      rw [z, nI] at this
      cases this
    have S3 := J3.suite e3 d3 na nL nF
    refine wpAny_handleBy_cons (codeAny_handlers_test ?_) (by intro r; cases r)
    have LT : PySem.W.Looks (model X.prog X.w) h3 (typeOf (.ref a)) cls := fun A Q E s k r => wpAny_typeOf_ref (k _ _ e3) (by rw [z3.1]; exact r)
    have LM := PySem.W.exm_one (M := model X.prog X.w) (J3.kIn) LT hexm
    have test : ∀ {Q : Value → Shared → Prop} {E : Value → Shared → Prop}, Q c { s' with heap := h3 } → wpAny (model X.prog X.w) (X.A.mark (some (.ref a))) (eval (.Name x np) X.env) Q E { s' with heap := h3 } := fun {Q E} r => by
      obtain ⟨hg, hdbg, hm | ⟨hm, hv, hnn⟩⟩ := hc
      · exact ld_glob (X := X.suite a ((a, o3) :: (X.pn ++ pins))) S3 hg hm r hdbg
      · exact ld_blt (X := X.suite a ((a, o3) :: (X.pn ++ pins))) S3 hg hm hv r hnn hdbg
    refine test (LM.here (codeAny_handlers_suite_as (HandSPX.lands_againZ fl3 fun h4 fl4 up4 => ?_)))
    have J4 : Inv X pins σ1 H1 { s' with heap := h4 } := J.landed nb fl4.1 ((up.trans up3).trans up4) os ag
    obtain ⟨o4, v4, e4, z4, d4⟩ := fl4.there
    refine store_ok (X := X.suite a ((a, o4) :: (X.pn ++ pins))) (v := .ref a) (J4.suite e4 d4 na nL nF) hN hi (.inl hln) rfl (fun s5 S5 => ?_) (.inr hln)
    refine wpAny_mono ((hsu a ((a, o4) :: (X.pn ++ pins))).run [] s5 _ H1 { nx := fun σ6 H6 => σ6 = (σ1.set i (some (.ref a))).set j (some (.ref a)) ∧ H6 = H1, rt := fun _ _ => False, bk := fun _ _ => False, ct := fun _ _ => False } S5 ?_) (fun f s6 hsp => ?_) (fun _ _ r => False.elim r)
    · refine ⟨.ref a, ?_, rfl, rfl⟩
      have li : i < σ1.length := by
        rw [J.len]
        exact (List.getElem?_eq_some_iff.mp hi).1
      exact List.getElem?_set_self li
    cases f with
    | next =>
      obtain ⟨σ6, H6, S6, rfl, rfl⟩ := hsp
      have U := S6.unsuite ok
      have J6 : Inv X ((a, o4) :: pins) ((σ1.set i (some (.ref a))).set j (some (.ref a))) H6 s6 := ⟨U.ok, U.os, U.bare, U.base, U.loc, U.cell, U.free, U.freeC, fun p hp => by
        rcases List.mem_append.mp hp with z | z
        · exact U.pin p (List.mem_append_left _ z)
        · rcases List.mem_cons.mp z with z | z
          · rw [z]
            exact S6.pin (a, o4) (List.mem_append_left _ List.mem_cons_self)
          · exact U.pin p (List.mem_append_right _ z), U.hok, U.len⟩
      refine gone_ok J6 hN hi hln fun s7 J7 => ?_
      have e7 := (J7.pin (a, o4) (List.mem_append_right _ List.mem_cons_self)).1
      have K7 : Inv X pins (((σ1.set i (some (.ref a))).set j (some (.ref a))).set i none) H6 s7 := ⟨J7.ok, J7.os, J7.bare, J7.base, J7.loc, J7.cell, J7.free, J7.freeC, fun p hp => J7.pin p (by
        rcases List.mem_append.mp hp with z | z
        · exact List.mem_append_left _ z
        · exact List.mem_append_right _ (List.mem_cons_of_mem _ z)), J7.hok, J7.len⟩
      exact ⟨_, _, track K7 na e7 z4 d4 n0 nL npn, q a na⟩
    | brk =>
      obtain ⟨_, _, _, z⟩ := hsp
      exact z.elim
    | cont =>
      obtain ⟨_, _, _, z⟩ := hsp
      exact z.elim
    | ret u =>
      obtain ⟨_, _, _, _, _, z⟩ := hsp
      exact z.elim
  · cases f with
    | next =>
      obtain ⟨σ1, H1, J1, q⟩ := hsp
      exact wpAny_execs_nil ⟨σ1, H1, J1.ofTry ok, q⟩
    | brk =>
      obtain ⟨σ1, H1, J1, q⟩ := hsp
      exact ⟨σ1, H1, J1.ofTry ok, q⟩
    | cont =>
      obtain ⟨σ1, H1, J1, q⟩ := hsp
      exact ⟨σ1, H1, J1.ofTry ok, q⟩
    | ret u =>
      obtain ⟨v, σ1, H1, J1, r, q⟩ := hsp
      exact ⟨v, σ1, H1, J1.ofTry ok, r, q⟩
/-- isinstance(e, c), e kept -/
def rIsK (K : PySem.W.Frag) : List V → Hp → VK → Prop := fun xs H Q => ∃ (a D : Addr) (d : Option Addr) (c : V) (cv : Value) (b : Bool), xs = [.ref a, c] ∧ H a = some (ExD (.ref D) d a) ∧ DOk H d ∧ ExcC K D ∧ (∀ u, RelV c u → u = cv) ∧ PySem.W.kitOne K (.ref D) cv = some b ∧ Q (.bl b) H
theorem inst_of {X : Cx} {pins : List (Addr × Obj)} {σ : L2.St} {H : Hp} {s : Shared} {a D : Addr} {d : Option Addr} (I : Inv X pins σ H s) (h : H a = some (ExD (.ref D) d a)) (hd : DOk H d) : ∃ oe od, PySem.W.InstAt s.heap a oe D od := by
  have z : ObjOk X.prog X.w H s.heap a (.ext fun h => ∃ (oe : Obj) (vs : Array Value), h.get? a = some oe ∧ Zc (.ref D) d oe ∧ oe.data = .fields vs) := I.hok a _ h
  obtain ⟨⟨oe, vs, hget, hz, hv⟩, _⟩ := z
  obtain ⟨oc, od, oda, osl⟩ := oe
  obtain ⟨h1, h2⟩ := hz
  dsimp only at h1 h2 hv
  subst h1 h2 hv
  cases od with
  | none => exact ⟨_, none, hget, rfl, rfl, trivial⟩
  | some dx =>
    obtain ⟨fs, hx⟩ := hd dx rfl
    have y : ObjOk X.prog X.w H s.heap dx (.xd fs) := I.hok dx _ hx
    obtain ⟨mA, ⟨o, es, ep, ho, hr⟩, _⟩ := y
    exact ⟨_, some o, hget, rfl, rfl, ho⟩
theorem excC_cl {K : PySem.W.Frag} {D : Addr} (C : ExcC K D) : (PySem.W.clsIn K D).isSome = true := by
  obtain ⟨cd, hc, _⟩ := PySem.W.any_some C.hd
  rw [hc]
  rfl
theorem call_isK {X : Cx} : CallR X (.builtin "isinstance") (rIsK X.K) := by
  intro pins s σ H xs us Q I r h
  obtain ⟨a, D, d, c, cv, b, rfl, hE, hd, C, hcv, e, q⟩ := h
  cases r with
  | cons rx rr =>
    cases rr with
    | cons rt rr =>
      cases rr
      cases rx
      have ec := hcv _ rt
      subst ec
      obtain ⟨oe, od, J⟩ := inst_of I hE hd
      exact PySem.W.kia_one (PySem.W.kitx_exc (excC_cl C) C.hg C.hk C.hs C.ha C.hn C.ht C.hm) I.kIn J e (fun z => nomatch z) fun tk => ⟨.bl b, H, I.kept (t' := tk) fun _ _ z => z, rfl, q⟩
end UP

set_option Elab.async false
set_option linter.all false
set_option maxRecDepth 100000
set_option maxHeartbeats 4000000
namespace UP
open PySem PySem.Spec PyProof.Rows L2
def six : List Str := ["InvalidSequence", "InvalidState", "InvalidPosition", "InvalidNumber", "InvalidItems", "TooLong"]
def oddA : List Str := ["Contradiction", "Impossible", "InvalidCommand", "InvalidCounts", "InvalidEffects", "InvalidKind"]
def oddB : List Str := ["InvalidKinds", "InvalidRecord", "InvalidText", "NothingToUndo", "SameEffect", "TooMany"]
/-- the classes stand there -/
structure Cmg (mg : Str → Option Value) (CA : Str → Addr) : Prop where
  all : ∀ n, n ∈ six ++ (oddA ++ (oddB ++ [("PairError" : Str)])) → mg n = some (.ref (CA n))
/-- what the class nm says of itself -/
structure ClsF (K : PySem.W.Frag) (CA : Str → Addr) (nm : Str) : Prop where
  ex : ExcC K (CA nm)
  em : PySem.W.exmOne K (.ref (CA nm)) (.ref (CA "PairError")) = some true
  ki : ∀ n, n ∈ six ++ (oddA ++ oddB) → PySem.W.kitOne K (.ref (CA nm)) (.ref (CA n)) = some (decide (n = nm))
  kp : PySem.W.kitOne K (.ref (CA nm)) (.ref (CA "PairError")) = some true
  kv : PySem.W.kitOne K (.ref (CA nm)) (.type "ValueError") = some true
end UP

set_option Elab.async false
set_option linter.all false
set_option maxRecDepth 100000
set_option maxHeartbeats 4000000
set_option pp.maxSteps 600
namespace UP
open PySem PySem.Spec PyProof.Rows L2
section
variable {X : Cx}
/-- a call that may raise, in a def that may -/
theorem pe_callXH {k : Nat} {x : Str} {ps : List Str} {sp : Sp} {W : WX} {p pos : Pos} {e : Expr} {es : List Expr} {t : TA} (G : HasX X.prog X.w X.K X.mg X.base k x ps sp) (tk : Takes X W) (hr : Room k X.A) (hg : Gl X x) (ha : PA X (e :: es) t)
    (hdb : (x == ("__debug__" : Str)) = false := by decide) (he : starEach (e :: es) X.env = (false, eval e X.env) :: starEach es X.env := by rfl) (hpl : (backTo pos (starEach es X.env)).any (·.1) = false := by rfl) :
    PE X (.Call (.Name x p) (e :: es) [] pos) (tCallS sp (WE W) t) := by
  obtain ⟨f, fd, g, kp, b, F⟩ := G
  exact pe_callS F hr hg g kp b (fun σ => passAt tk σ) ha hdb he hpl
/-- f(e, ..): either promise -/
def tCallEX (sp1 sp2 : Sp) (E : L2.St → XK) (t : TA) : TE := fun σ H Q => t σ H fun vs H1 => sp1 vs H1 Q E0 ∨ sp2 vs H1 Q (E σ)
theorem pe_callEX {k j : Nat} {x : Str} {ps : List Str} {sp1 sp2 : Sp} {W : WX} {p pos : Pos} {e : Expr} {es : List Expr} {t : TA} (G1 : Has X.prog X.w X.K X.mg X.base j x ps sp1) (G2 : HasX X.prog X.w X.K X.mg X.base k x ps sp2) (tk : Takes X W) (hr1 : Room j X.A) (hr : Room k X.A) (hg : Gl X x) (ha : PA X (e :: es) t)
    (hdb : (x == ("__debug__" : Str)) = false := by decide) (he : starEach (e :: es) X.env = (false, eval e X.env) :: starEach es X.env := by rfl) (hpl : (backTo pos (starEach es X.env)).any (·.1) = false := by rfl) :
    PE X (.Call (.Name x p) (e :: es) [] pos) (tCallEX sp1 sp2 (WE W) t) := by
  obtain ⟨f, fd, hm, hk, hb, F⟩ := G2
  obtain ⟨f1, fd1, hm1, hk1, hb1, F1⟩ := G1
  obtain rfl : f1 = f := Value.ref.inj (Option.some.inj (hm1.symm.trans hm))
  refine ⟨fun pins s σ H Q I h => ?_⟩
  refine wpAny_Call_Name_kw (ld_glob I hg hm ?_ hdb)
  refine PySem.W.callWith_K (h₀ := X.base) I.ok.mod.kin hk (thn (ha.run pos pins s σ H _ I h) fun us s1 ⟨vs, H1, I1, r, q⟩ => ⟨I1.kIn, ?_⟩) he hpl
  rcases q with q | q
  · exact run_fn (ds := []) (dvs := []) F1 hr1 hb1 .nil pass0 I1 r (by rw [List.append_nil]; exact q)
  · exact run_fnS F hr hb (passAt tk σ) I1 r q
end
section
variable {P : Program} {w : World} {K : PySem.W.Frag} {mg : Str → Option Value} {base : Heap}
/-- no sequence -/
def spX_seq (CS : Addr) : Sp := fun vs H _ E => ∃ (v : V) (d : Dat), vs = [v] ∧ Rp H v d ∧ d.fits ∧ d.seq = false ∧ ∀ H', Same H H' → E (.ref CS) none H'
theorem okX_total_length {CS : Addr} (D : Df K mg "total_length" s_total_length) (G_checked_runs : HasX P w K mg base 5 "checked_runs" ["sequence"] (spX_checked_runs CS)) (G_length_of : Has P w K mg base 1 "length_of" ["runs"] sp_length_of) : HasX P w K mg base 6 "total_length" ["sequence"] (spX_seq CS) := by
  refine hasX_of D sc_total_length (fun _ _ _ _ _ _ us hl => match us, hl with | [_], _ => rfl) (fun vs H Q E h => ?_) (fun f cdv A outer s H vs Q E hr h => ?_)
  · obtain ⟨_, _, rfl, _⟩ := h
    rfl
  · obtain ⟨v, d, rfl, hv, fv, c0, qe⟩ := h
    refine ⟨_, (pss_one (ps_ret (pe_callH G_length_of (hr.mono (by omega)) (by rfl) (pa_cons (pe_callXH G_checked_runs (takes_of rfl rfl rfl rfl) (hr.mono (by omega)) (by rfl) (pa_cons (pv 0) pa_nil)) pa_nil)))), ?_⟩
    exact ⟨_, rfl, v, d, rfl, hv, fv, fun c1 => absurd c1 (by rw [c0]; decide), fun _ H1 s1 => qe _ s1⟩
theorem okX_counts_of {CS : Addr} (D : Df K mg "counts_of" s_counts_of) (T : Tx mg) (G_checked_runs : HasX P w K mg base 5 "checked_runs" ["sequence"] (spX_checked_runs CS)) : HasX P w K mg base 6 "counts_of" ["sequence"] (spX_seq CS) := by
  refine hasX_of D sc_counts_of (fun _ _ _ _ _ _ us hl => match us, hl with | [_], _ => rfl) (fun vs H Q E h => ?_) (fun f cdv A outer s H vs Q E hr h => ?_)
  · obtain ⟨_, _, rfl, _⟩ := h
    rfl
  · obtain ⟨v, d, rfl, hv, fv, c0, qe⟩ := h
    refine ⟨_, (pss_cons (ps_set (i := 1) sc_counts_of.nd rfl (by first | exact Or.inl rfl | exact Or.inr rfl) pe_dnewK)
    (pss_cons (ps_for (passes_of rfl) rfl (pi_list (pe_callXH G_checked_runs (takes_of rfl rfl rfl rfl) (hr.mono (by omega)) (by rfl) (pa_cons (pv 0) pa_nil))) (pg_tup rfl (pgs_cons (pg_name (i := 2) sc_counts_of.nd rfl (by first | exact Or.inl rfl | exact Or.inr rfl)) (pgs_cons (pg_name (i := 3) sc_counts_of.nd rfl (by first | exact Or.inl rfl | exact Or.inr rfl)) pgs_nil)))
      (pss_one (ps_dput (hu_of hr) (pv 1) (pv 2) (pe_op op_add (pe_dget2 (hu_of hr) (pv 1) (pv 2) pe_int ⟨by rfl, by rfl, by rfl, by rfl⟩) (pv 3)) rfl)))
    (pss_one (ps_ret (pe_callB cr_sortedR (by rfl) T.n_sorted (by decide +kernel) (pa_cons (LiI.pe_listItems (by rfl) (pv 1) (by rfl) T.n_list (by decide +kernel)) pa_nil)))))), ?_⟩
    exact fun d1 nd => ⟨_, rfl, v, d, rfl, hv.same (same_upd nd), fv, fun c1 => absurd c1 (by rw [c0]; decide), fun _ H1 s1 => qe _ ((same_upd nd).trans s1)⟩
def spX_check_position (CP : Addr) : Sp := fun vs H Q E => ∃ (a : Addr) (rs : List Run) (x : V) (f : Dat), vs = [.ref a, x] ∧ Runs H a rs ∧ rs.length ≤ 1000 ∧ Rp H x f ∧ f.inI 0 (lenR rs - 1) = false ∧ ∀ H', Same H H' → E (.ref CP) none H'
theorem okX_check_position {CP : Addr} (D : Df K mg "check_position" s_check_position) (X1 : Ex K mg "InvalidPosition" CP) (G_is_within : Has P w K mg base 2 "is_within" ["value", "low", "high"] spD_is_within) (G_length_of : Has P w K mg base 1 "length_of" ["runs"] sp_length_of) : HasX P w K mg base 3 "check_position" ["runs", "position"] (spX_check_position CP) := by
  refine hasX_of D sc_check_position (fun _ _ _ _ _ _ us hl => match us, hl with | [_, _], _ => rfl) (fun vs H Q E h => ?_) (fun f cdv A outer s H vs Q E hr h => ?_)
  · obtain ⟨_, _, _, _, rfl, _⟩ := h
    rfl
  · obtain ⟨a, rs, x, f', rfl, hR, l4, hf, inF, qe⟩ := h
    refine ⟨_, (pss_one (ps_if (pt_not (pt_val (pe_callH G_is_within (hr.mono (by omega)) (by rfl) (pa_cons (pv 1) (pa_cons pe_int (pa_cons (pe_op op_sub (pe_callH G_length_of (hr.mono (by omega)) (by rfl) (pa_cons (pv 0) pa_nil)) pe_int) pa_nil)))))) (pss_one (ps_raise rfl (takes_of rfl rfl rfl rfl) (pmk_own PySem.F.excBase_ValueError X1.x X1.g X1.k (raises_own X1.b X1.t) (by exact rfl)))) pss_nil)), ?_⟩
    exact ⟨_, rfl, _, rfl, a, rs, rfl, hR, l4, fun H2 s2 => ⟨_, _, rfl, rfl, x, f', 0, _, rfl, hf.same s2, _, rfl, iteP (by rw [show f'.inI 0 (lenR rs - 1) = false from inF]; rfl) (qe H2 s2)⟩⟩
def spX_kind_at (CS CP : Addr) : Sp := fun vs H _ E => ∃ (v x : V) (d f : Dat), vs = [v, x] ∧ Rp H v d ∧ d.fits ∧ Rp H x f ∧ ((d.seq = false ∧ ∀ H', Same H H' → E (.ref CS) none H') ∨ (d.seq = true ∧ f.inI 0 (lenR d.runs - 1) = false ∧ ∀ H', Same H H' → E (.ref CP) none H'))
theorem okX_kind_at {CS CP : Addr} (D : Df K mg "kind_at" s_kind_at) (G_checked_runs : HasX P w K mg base 5 "checked_runs" ["sequence"] (spX_checked_runs CS)) (G_check_position : HasX P w K mg base 3 "check_position" ["runs", "position"] (spX_check_position CP)) (G_cut : Has P w K mg base 1 "cut" ["runs", "start", "length"] sp_cut) : HasX P w K mg base 6 "kind_at" ["sequence", "position"] (spX_kind_at CS CP) := by
  refine hasX_of D sc_kind_at (fun _ _ _ _ _ _ us hl => match us, hl with | [_, _], _ => rfl) (fun vs H Q E h => ?_) (fun f cdv A outer s H vs Q E hr h => ?_)
  · obtain ⟨_, _, _, _, rfl, _⟩ := h
    rfl
  · obtain ⟨v, x, d, f', rfl, hv, fv, hf, bad⟩ := h
    refine ⟨_, (pss_cons (ps_set (i := 2) sc_kind_at.nd rfl (by first | exact Or.inl rfl | exact Or.inr rfl) (pe_callXH G_checked_runs (takes_of rfl rfl rfl rfl) (hr.mono (by omega)) (by rfl) (pa_cons (pv 0) pa_nil)))
    (pss_cons (ps_expr (pe_callXH G_check_position (takes_of rfl rfl rfl rfl) (hr.mono (by omega)) (by rfl) (pa_cons (pv 2) (pa_cons (pv 1) pa_nil))))
    (pss_one (ps_ret (pe_ix ix_tup (pe_ix ix_list (pe_callH G_cut (hr.mono (by omega)) (by rfl) (pa_cons (pv 2) (pa_cons (pv 1) (pa_cons pe_int pa_nil)))) pe_int (fun _ _ => rfl)) pe_int (fun _ _ => rfl)))))), ?_⟩
    refine ⟨_, rfl, v, d, rfl, hv, fv, fun c1 H1 p s1 np hp => ?_, fun c1 H1 s1 => ?_⟩
    · rcases bad with ⟨c0, _⟩ | ⟨_, inF, qe⟩
      · rw [c0] at c1; cases c1
      · exact ⟨_, rfl, _, rfl, p, _, x, f', rfl, hp, by have := (seq_rp hv c1).2.1; omega, hf.same s1, inF, fun H2 s2 => qe _ (s1.trans s2)⟩
    · rcases bad with ⟨_, qe⟩ | ⟨c0, _⟩
      · exact qe _ s1
      · rw [c0] at c1; cases c1
def spX_part_of (CS CP CN : Addr) : Sp := fun vs H _ E => ∃ (v x y : V) (d f g : Dat), vs = [v, x, y] ∧ Rp H v d ∧ d.fits ∧ Rp H x f ∧ Rp H y g ∧ ((d.seq = false ∧ ∀ H', Same H H' → E (.ref CS) none H') ∨ (d.seq = true ∧ f.inI 0 (lenR d.runs) = false ∧ ∀ H', Same H H' → E (.ref CP) none H') ∨
  (∃ s : Int, d.seq = true ∧ f = .int s ∧ 0 ≤ s ∧ s ≤ lenR d.runs ∧ g.inI 0 (lenR d.runs - s) = false ∧ ∀ H', Same H H' → E (.ref CN) none H'))
theorem okX_part_of {CS CP CN : Addr} (D : Df K mg "part_of" s_part_of) (T : Tx mg) (X1 : Ex K mg "InvalidPosition" CP) (X2 : Ex K mg "InvalidNumber" CN) (G_checked_runs : HasX P w K mg base 5 "checked_runs" ["sequence"] (spX_checked_runs CS)) (G_length_of : Has P w K mg base 1 "length_of" ["runs"] sp_length_of) (G_is_within : Has P w K mg base 2 "is_within" ["value", "low", "high"] spD_is_within) (G_cut : Has P w K mg base 1 "cut" ["runs", "start", "length"] sp_cut) :
    HasX P w K mg base 6 "part_of" ["sequence", "start", "length"] (spX_part_of CS CP CN) := by
  refine hasX_of D sc_part_of (fun _ _ _ _ _ _ us hl => match us, hl with | [_, _, _], _ => rfl) (fun vs H Q E h => ?_) (fun f cdv A outer s H vs Q E hr h => ?_)
  · obtain ⟨_, _, _, _, _, _, rfl, _⟩ := h
    rfl
  · obtain ⟨v, x, y, d, f', g', rfl, hv, fv, hf, hg, bad⟩ := h
    refine ⟨_, (pss_cons (ps_set (i := 3) sc_part_of.nd rfl (by first | exact Or.inl rfl | exact Or.inr rfl) (pe_callXH G_checked_runs (takes_of rfl rfl rfl rfl) (hr.mono (by omega)) (by rfl) (pa_cons (pv 0) pa_nil)))
    (pss_cons (ps_set (i := 4) sc_part_of.nd rfl (by first | exact Or.inl rfl | exact Or.inr rfl) (pe_callH G_length_of (hr.mono (by omega)) (by rfl) (pa_cons (pv 3) pa_nil)))
    (pss_cons (ps_if (pt_not (pt_val (pe_callH G_is_within (hr.mono (by omega)) (by rfl) (pa_cons (pv 1) (pa_cons pe_int (pa_cons (pv 4) pa_nil)))))) (pss_one (ps_raise rfl (takes_of rfl rfl rfl rfl) (pmk_own PySem.F.excBase_ValueError X1.x X1.g X1.k (raises_own X1.b X1.t) (by exact rfl)))) pss_nil)
    (pss_cons (ps_if (pt_not (pt_val (pe_callH G_is_within (hr.mono (by omega)) (by rfl) (pa_cons (pv 2) (pa_cons pe_int (pa_cons (pe_op op_sub (pv 4) (pv 1)) pa_nil)))))) (pss_one (ps_raise rfl (takes_of rfl rfl rfl rfl) (pmk_own PySem.F.excBase_ValueError X2.x X2.g X2.k (raises_own X2.b X2.t) (by exact rfl)))) pss_nil)
    (pss_one (ps_ret (pe_callH G_cut (hr.mono (by omega)) (by rfl) (pa_cons (pv 3) (pa_cons (pv 1) (pa_cons (pv 2) pa_nil)))))))))), ?_⟩
    refine ⟨_, rfl, v, d, rfl, hv, fv, fun c1 H1 p s1 np hp => ?_, fun c1 H1 s1 => ?_⟩
    · have l4 : d.runs.length ≤ 1000 := by have := (seq_rp hv c1).2.1; omega
      refine ⟨_, rfl, p, _, rfl, hp, l4, fun H2 s2 => ?_⟩
      have s02 := s1.trans s2
      rcases bad with ⟨c0, _⟩ | ⟨_, inF, qe⟩ | ⟨s, _, rfl, s0, sl, inG, qe⟩
      · rw [c0] at c1; cases c1
      · exact ⟨_, rfl, _, rfl, x, f', 0, _, rfl, hf.same s02, _, rfl, iteP (by rw [show f'.inI 0 (lenR d.runs) = false from inF]; rfl) (qe _ s02)⟩
      · cases hf
        refine ⟨_, rfl, _, rfl, _, _, 0, _, rfl, .int s, _, rfl, iteN ?_ ?_⟩
        · rw [show (Dat.int s).inI 0 (lenR d.runs) = true from decide_eq_true ⟨s0, sl⟩]
          rfl
        exact ⟨_, rfl, _, rfl, _, rfl, _, _, rfl, rfl, y, g', 0, _, rfl, hg.same s02, _, rfl, iteP (by rw [show g'.inI 0 (lenR d.runs - s) = false from inG]; rfl) (qe _ s02)⟩
    · rcases bad with ⟨_, qe⟩ | ⟨c0, _⟩ | ⟨_, c0, _⟩
      · exact qe _ s1
      · rw [c0] at c1; cases c1
      · rw [c0] at c1; cases c1
def spX_checked_short_runs (CS CL : Addr) : Sp := fun vs H _ E => ∃ (v : V) (d : Dat), vs = [v] ∧ Rp H v d ∧ d.fits ∧ ((d.seq = false ∧ ∀ H', Same H H' → E (.ref CS) none H') ∨ (d.seq = true ∧ 400 < lenR d.runs ∧ ∀ H', Same H H' → E (.ref CL) none H'))
theorem okX_checked_short_runs {CS CL : Addr} (D : Df K mg "checked_short_runs" s_checked_short_runs) (T : Tx mg) (X1 : Ex K mg "TooLong" CL) (G_checked_runs : HasX P w K mg base 5 "checked_runs" ["sequence"] (spX_checked_runs CS)) (G_length_of : Has P w K mg base 1 "length_of" ["runs"] sp_length_of) : HasX P w K mg base 6 "checked_short_runs" ["sequence"] (spX_checked_short_runs CS CL) := by
  refine hasX_of D sc_checked_short_runs (fun _ _ _ _ _ _ us hl => match us, hl with | [_], _ => rfl) (fun vs H Q E h => ?_) (fun f cdv A outer s H vs Q E hr h => ?_)
  · obtain ⟨_, _, rfl, _⟩ := h
    rfl
  · obtain ⟨v, d, rfl, hv, fv, bad⟩ := h
    refine ⟨_, (pss_cons (ps_set (i := 1) sc_checked_short_runs.nd rfl (by first | exact Or.inl rfl | exact Or.inr rfl) (pe_callXH G_checked_runs (takes_of rfl rfl rfl rfl) (hr.mono (by omega)) (by rfl) (pa_cons (pv 0) pa_nil)))
    (pss_cons (ps_if (pt_cmpR op_gt (pe_callH G_length_of (hr.mono (by omega)) (by rfl) (pa_cons (pv 1) pa_nil)) (pe_glI T.c_MAX_ITEMS (by rfl)) (nomark _)) (pss_one (ps_raise rfl (takes_of rfl rfl rfl rfl) (pmk_own PySem.F.excBase_ValueError X1.x X1.g X1.k (raises_own X1.b X1.t) (by exact rfl)))) pss_nil)
    (pss_one (ps_ret (pv 1))))), ?_⟩
    refine ⟨_, rfl, v, d, rfl, hv, fv, fun c1 H1 p s1 np hp => ?_, fun c1 H1 s1 => ?_⟩
    · rcases bad with ⟨c0, _⟩ | ⟨_, l4, qe⟩
      · rw [c0] at c1; cases c1
      · exact ⟨_, rfl, p, _, rfl, hp, by have := (seq_rp hv c1).2.1; omega, fun H2 s2 => ⟨_, _, rfl, rfl, _, rfl, iteP (decide_eq_true l4) (qe _ (s1.trans s2))⟩⟩
    · rcases bad with ⟨_, qe⟩ | ⟨c0, _⟩
      · exact qe _ s1
      · rw [c0] at c1; cases c1
theorem okX_items_of {CS CL : Addr} (D : Df K mg "items_of" s_items_of) (T : Tx mg) (G_checked_short_runs : HasX P w K mg base 6 "checked_short_runs" ["sequence"] (spX_checked_short_runs CS CL)) : HasX P w K mg base 7 "items_of" ["sequence"] (spX_checked_short_runs CS CL) := by
  refine hasX_of D sc_items_of (fun _ _ _ _ _ _ us hl => match us, hl with | [_], _ => rfl) (fun vs H Q E h => ?_) (fun f cdv A outer s H vs Q E hr h => ?_)
  · obtain ⟨_, _, rfl, _⟩ := h
    rfl
  · obtain ⟨v, d, rfl, hv, fv, bad⟩ := h
    refine ⟨_, (pss_cons (ps_set (i := 1) sc_items_of.nd rfl (by first | exact Or.inl rfl | exact Or.inr rfl) (pe_lst pa_nil))
    (pss_cons (ps_for (passes_of rfl) rfl (pi_list (pe_callXH G_checked_short_runs (takes_of rfl rfl rfl rfl) (hr.mono (by omega)) (by rfl) (pa_cons (pv 0) pa_nil))) (pg_tup rfl (pgs_cons (pg_name (i := 2) sc_items_of.nd rfl (by first | exact Or.inl rfl | exact Or.inr rfl)) (pgs_cons (pg_name (i := 3) sc_items_of.nd rfl (by first | exact Or.inl rfl | exact Or.inr rfl)) pgs_nil)))
      (pss_one (ps_expr (pe_bm PySem.F.plainAttrs_list PySem.F.slot_list_extend PySem.F.type_list_extend mt_extend (pv 1) (pa_cons (pe_op op_rep (pe_lst (pa_cons (pv 2) pa_nil)) (pv 3)) pa_nil)))))
    (pss_one (ps_ret (pv 1))))), ?_⟩
    refine ⟨Nat.zero_le _, fun p np => ?_⟩
    have s0 := same_upd (o := .lst []) np
    refine ⟨_, rfl, v, d, rfl, hv.same s0, fv, ?_⟩
    rcases bad with ⟨c0, qe⟩ | ⟨c0, l4, qe⟩
    · exact .inl ⟨c0, fun H1 s1 => qe _ (s0.trans s1)⟩
    · exact .inr ⟨c0, l4, fun H1 s1 => qe _ (s0.trans s1)⟩
/-- what runs_of refuses -/
def BadI (d : Dat) : Prop := d.listed 400 = false ∨ (∃ l, d.parts = some l ∧ d.listed 400 = true ∧ (∀ x ∈ l, x.fit) ∧ l.all Dat.kind = false)
def spX_runs_of (CI : Addr) : Sp := fun vs H _ E => ∃ (v : V) (d : Dat), vs = [v] ∧ Rp H v d ∧ BadI d ∧ ∀ H', Same H H' → E (.ref CI) none H'
theorem okX_runs_of {CI : Addr} (D : Df K mg "runs_of" s_runs_of) (T : Tx mg) (X1 : Ex K mg "InvalidItems" CI) (G_is_listed : Has P w K mg base 1 "is_listed" ["value", "most"] spD_is_listed) (G_is_kind : Has P w K mg base 1 "is_kind" ["value"] spD_is_kind) (G_add_run : Has P w K mg base 1 "add_run" ["runs", "kind", "count"] sp_add_run) :
    HasX P w K mg base 2 "runs_of" ["items"] (spX_runs_of CI) := by
  refine hasX_of D sc_runs_of (fun _ _ _ _ _ _ us hl => match us, hl with | [_], _ => rfl) (fun vs H Q E h => ?_) (fun f cdv A outer s H vs Q E hr h => ?_)
  · obtain ⟨_, _, rfl, _⟩ := h
    rfl
  · obtain ⟨v, d, rfl, hv, no, qe⟩ := h
    refine ⟨_, (pss_cons (ps_if (PW.pt (pw_or (pt_not (pt_val (pe_callH G_is_listed (hr.mono (by omega)) (by rfl) (pa_cons (pv 0) (pa_cons (pe_glI T.c_MAX_ITEMS (by rfl)) pa_nil))))) (pw_or1 (pt_not (pt_val (pe_callB (cr_all rfl) (by rfl) T.n_all (by decide +kernel) (pa_cons (pe_lc (own := [("item", 3)]) rfl sc_runs_of.nd (pi_seqA 0) (blkOk_by (N := ["items", "runs", "kind", "item"]) (sc := defScope s_runs_of) (by decide +kernel)) (fun _ _ _ _ _ => (pg_name (i := 3) sc_runs_of.nd rfl (by first | exact Or.inl rfl | exact Or.inr rfl))) (fun _ _ _ _ _ => pts_nil) (fun _ _ _ _ _ => (pe_callH G_is_kind (hr.mono (by omega)) (by rfl) (pa_cons (pv 3) pa_nil)))) pa_nil))))))) (pss_one (ps_raise rfl (takes_of rfl rfl rfl rfl) (pmk_own PySem.F.excBase_ValueError X1.x X1.g X1.k (raises_own X1.b X1.t) (by exact rfl)))) pss_nil)
    (pss_cons (ps_set (i := 1) sc_runs_of.nd rfl (by first | exact Or.inl rfl | exact Or.inr rfl) (pe_lst pa_nil))
    (pss_cons (ps_for (passes_of rfl) rfl (pi_seqA 0) (pg_name (i := 2) sc_runs_of.nd rfl (by first | exact Or.inl rfl | exact Or.inr rfl))
      (pss_one (ps_expr (pe_callH G_add_run (hr.mono (by omega)) (by rfl) (pa_cons (pv 1) (pa_cons (pv 2) (pa_cons pe_int pa_nil)))))))
    (pss_one (ps_ret (pv 1)))))), ?_⟩
    refine ⟨_, rfl, v, d, 400, rfl, hv, fun H1 s1 => ⟨_, rfl, ?_⟩⟩
    rcases no with no | ⟨l, hd, cl, fit, no⟩
    · exact iteP (by rw [no]; rfl) (qe _ s1)
    refine iteN (by rw [cl]; rfl) ?_
    obtain ⟨b, xs, rfl, hx, hp⟩ := (hv.same s1).seq hd
    have lx : xs.length = l.length := Paired.len hp
    have ll : (l.length : Int) ≤ 400 := by
      unfold Dat.listed at cl
      rw [hd] at cl
      exact of_decide_eq_true cl
    refine ⟨b, xs, rfl, hx, fun J wk L nL => lc_wka wk (fun i H' => Same H1 H' ∧ H' L = some (.lst (((l.take i).map Dat.kind).map V.bl))) (fun _ _ p => hx.eq p.1) ⟨same_upd nL, upd_same⟩ (fun i x H3 ex p => ?_) (fun H3 p => ?_)⟩
    · obtain ⟨sm, hL⟩ := p
      obtain ⟨r, er, hr1⟩ := Paired.at hp ex
      have hi : i < xs.length := (List.getElem?_eq_some_iff.mp ex).1
      refine ⟨rfl, yesT ⟨_, rfl, x, r, rfl, hr1.same sm, fit r (List.mem_of_getElem? er), fun H4 s4 => ⟨_, s4 _ _ hL, ?_, same_grow nL (sm.trans s4), ?_⟩⟩⟩
      · simp only [List.length_map, List.length_take]
        exact small (by omega)
      · rw [upd_same, take_snoc er, List.map_append, List.map_append]
        rfl
    obtain ⟨s3, hL⟩ := p
    rw [lx, List.take_length] at hL
    refine ⟨L, _, rfl, .of hL, _, rfl, ?_⟩
    rw [all_map, no]
    exact iteP rfl (qe _ (s1.trans s3))
def LongJ (rs : List Run) : Prop := 400 < rs.length ∨ (rs.length ≤ 400 ∧ ∃ r ∈ rs, 1000000000000000000000000000000 < r.2)
def spX_joined (CS CL : Addr) : Sp := fun vs H _ E => ∃ (v x : V) (d f : Dat), vs = [v, x] ∧ Rp H v d ∧ d.fits ∧ Rp H x f ∧ f.fits ∧ (((d.seq = false ∨ (d.seq = true ∧ f.seq = false)) ∧ ∀ H', Same H H' → E (.ref CS) none H') ∨ (d.seq = true ∧ f.seq = true ∧ LongJ (joinR d.runs f.runs) ∧ ∀ H', Same H H' → E (.ref CL) none H'))
theorem okX_joined {CS CL : Addr} (D : Df K mg "joined" s_joined) (T : Tx mg) (X1 : Ex K mg "TooLong" CL) (G_checked_runs : HasX P w K mg base 5 "checked_runs" ["sequence"] (spX_checked_runs CS)) (G_add_run : Has P w K mg base 1 "add_run" ["runs", "kind", "count"] sp_add_run) :
    HasX P w K mg base 6 "joined" ["first", "second"] (spX_joined CS CL) := by
  refine hasX_of D sc_joined (fun _ _ _ _ _ _ us hl => match us, hl with | [_, _], _ => rfl) (fun vs H Q E h => ?_) (fun f cdv A outer s H vs Q E hr h => ?_)
  · obtain ⟨_, _, _, _, rfl, _⟩ := h
    rfl
  · obtain ⟨v, x, d, f', rfl, hv, fv, hf, ff, bad⟩ := h
    refine ⟨_, (pss_cons (ps_set (i := 2) sc_joined.nd rfl (by first | exact Or.inl rfl | exact Or.inr rfl) (pe_callXH G_checked_runs (takes_of rfl rfl rfl rfl) (hr.mono (by omega)) (by rfl) (pa_cons (pv 0) pa_nil)))
    (pss_cons (ps_for (passes_of rfl) rfl (pi_list (pe_callXH G_checked_runs (takes_of rfl rfl rfl rfl) (hr.mono (by omega)) (by rfl) (pa_cons (pv 1) pa_nil))) (pg_tup rfl (pgs_cons (pg_name (i := 3) sc_joined.nd rfl (by first | exact Or.inl rfl | exact Or.inr rfl)) (pgs_cons (pg_name (i := 4) sc_joined.nd rfl (by first | exact Or.inl rfl | exact Or.inr rfl)) pgs_nil)))
      (pss_one (ps_expr (pe_callH G_add_run (hr.mono (by omega)) (by rfl) (pa_cons (pv 2) (pa_cons (pv 3) (pa_cons (pv 4) pa_nil)))))))
    (pss_cons (ps_if (PW.pt (pw_or (pt_cmpR op_gt (pe_callB call_len_seq (by rfl) T.n_len (by decide +kernel) (pa_cons (pv 2) pa_nil)) (pe_glI T.c_MAX_RUNS (by rfl)) (nomark _)) (pw_or1 (pt_val (pe_callB (cr_any rfl) (by rfl) T.n_any (by decide +kernel) (pa_cons (pe_lc (own := [("kind", 3), ("count", 4)]) rfl sc_joined.nd (pi_list (pv 2)) (blkOk_by (N := ["first", "second", "runs", "kind", "count"]) (sc := defScope s_joined) (by decide +kernel)) (fun _ _ _ _ _ => (pg_tupK (K := K) (n := 2) rfl rfl (pgs_cons (pg_name (i := 3) sc_joined.nd rfl (by first | exact Or.inl rfl | exact Or.inr rfl)) (pgs_cons (pg_name (i := 4) sc_joined.nd rfl (by first | exact Or.inl rfl | exact Or.inr rfl)) pgs_nil)))) (fun _ _ _ _ _ => pts_nil) (fun _ _ _ _ _ => (pe_cmpR op_gt (pv 4) (pe_glI T.c_MAX_COUNT (by rfl)) (nomark _)))) pa_nil)))))) (pss_one (ps_raise rfl (takes_of rfl rfl rfl rfl) (pmk_own PySem.F.excBase_ValueError X1.x X1.g X1.k (raises_own X1.b X1.t) (by exact rfl)))) pss_nil)
    (pss_one (ps_ret (pv 2)))))), ?_⟩
    refine ⟨_, rfl, v, d, rfl, hv, fv, fun c1 H1 p s1 np hp => ?a, fun c1 H1 s1 => ?b⟩
    case b =>
      rcases bad with ⟨_, qe⟩ | ⟨c0, _⟩
      · exact qe _ s1
      · rw [c0] at c1; cases c1
    refine ⟨_, rfl, x, f', rfl, hf.same s1, ff, fun c2 H2 p2 s2 n2 h2 => ?a2, fun c2 H2 s2 => ?b2⟩
    case b2 =>
      rcases bad with ⟨_, qe⟩ | ⟨_, c0, _⟩
      · exact qe _ (s1.trans s2)
      · rw [c0] at c2; cases c2
    rcases bad with ⟨c0 | ⟨_, c0⟩, _⟩ | ⟨_, _, lj, qe⟩
    · rw [c0] at c1; cases c1
    · rw [c0] at c2; cases c2
    have la := (seq_rp hv c1).2.1
    have lb := (seq_rp hf c2).2.1
    generalize d.runs = rs at *
    generalize f'.runs = cs at *
    obtain ⟨xs, hx, hpr⟩ := h2
    have lx : xs.length = cs.length := Paired.len hpr
    have hp2 := hp.same s2
    have sA := s1.trans s2
    have np2 : p2 ≠ p := by
      obtain ⟨_, e, _⟩ := hp
      exact fun z => by rw [z, e] at n2; cases n2
    refine ⟨p2, rfl, ⟨xs, .of hx⟩, for_list (K := K) (a := p2) (xs := xs) (fun i σ H' => ∃ y3 y4, σ = [some v, some x, some (.ref p), y3, y4] ∧ But p H2 H' ∧ Runs H' p (joinR rs (cs.take i)))
      ⟨none, none, rfl, fun _ _ _ e => e, hp2⟩ (fun i σ H' _ hP => ?_) (fun i x σ H4 ex hP => ?_) (fun σ H4 hP => ?_)⟩
    · obtain ⟨_, _, _, bt, _⟩ := hP
      exact .of (bt _ _ np2 hx)
    · obtain ⟨y3, y4, rfl, bt, hR⟩ := hP
      obtain ⟨r, er, hr1⟩ := Paired.at hpr ex
      obtain ⟨_, hpl, _⟩ := id hp2
      obtain ⟨t, rfl, ht⟩ := RunV.butL hpl bt hr1
      have hl := joinR_len (cs.take i) rs
      rw [List.length_take] at hl
      refine ⟨t, _, rfl, .of ht, rfl, _, _, rfl, _, _, rfl, rfl, ?_⟩
      refine ⟨_, rfl, _, rfl, _, rfl, p, _, r, rfl, hR, by omega, fun H5 b5 h5 => ⟨_, _, rfl, bt.trans b5, ?_⟩⟩
      rw [take_snoc er, joinR_snoc]
      exact h5
    · obtain ⟨y3, y4, rfl, bt, hR⟩ := hP
      rw [lx, List.take_length] at hR
      obtain ⟨zs, hz, hzp⟩ := hR
      have lz : zs.length = (joinR rs cs).length := Paired.len hzp
      have sB : Same H H4 := fun b o e => bt _ _ (ne_of_none e np) (sA _ _ e)
      refine ⟨_, rfl, p, zs, rfl, .inl (.of hz), _, _, rfl, rfl, _, rfl, ?_⟩
      rcases lj with lj | ⟨l4, r0, hr0, c0⟩
      · exact iteP (decide_eq_true (by omega)) (qe _ sB)
      refine iteN (decide_eq_false (by omega)) ?_
      refine ⟨_, rfl, p, rfl, ⟨zs, .of hz⟩, fun L nL => lc_list (K := K) (a := p) (xs := zs) (fun i H' => Same H4 H' ∧ H' L = some (.lst ((((joinR rs cs).take i).map fun r => decide (1000000000000000000000000000000 < r.2)).map V.bl))) ⟨same_upd nL, upd_same⟩ (fun i H' _ p => .of (p.1 _ _ hz)) (fun i x H5 ex hP => ?_) (fun H5 hP => ?_)⟩
      · obtain ⟨sm, hL⟩ := hP
        obtain ⟨r, er, hr1⟩ := Paired.at hzp ex
        obtain ⟨t, rfl, ht⟩ := RunV.same sm hr1
        have hi : i < zs.length := (List.getElem?_eq_some_iff.mp ex).1
        refine ⟨t, _, rfl, .of ht, rfl, _, _, rfl, _, _, rfl, rfl, rfl, yesT ⟨_, rfl, _, _, rfl, rfl, _, hL, ?_, same_grow nL sm, ?_⟩⟩
        · simp only [List.length_map, List.length_take]
          exact small (by omega)
        · rw [upd_same, take_snoc er, List.map_append, List.map_append]
          rfl
      · obtain ⟨s5, hL⟩ := hP
        rw [lz, List.take_length] at hL
        refine ⟨L, _, rfl, .of hL, _, rfl, iteP ?_ (qe _ (sB.trans s5))⟩
        exact List.any_eq_true.mpr ⟨true, List.mem_map.mpr ⟨r0, hr0, decide_eq_true c0⟩, rfl⟩
end
end UP

set_option Elab.async false
set_option linter.all false
set_option maxRecDepth 100000
set_option maxHeartbeats 4000000
set_option pp.maxSteps 600
namespace UP
open PySem PySem.Spec PyProof.Rows L2
/-- isinstance(e, (c1, c2, ..)), e kept -/
def rIsKT (K : PySem.W.Frag) : List V → Hp → VK → Prop := fun xs H Q => ∃ (a D tp : Addr) (d : Option Addr) (cs : List V) (us : List Value) (b : Bool), xs = [.ref a, .ref tp] ∧ H a = some (ExD (.ref D) d a) ∧ DOk H d ∧ ExcC K D ∧ H tp = some (.tup cs) ∧ Paired ClsV cs us ∧ PySem.W.kitAny K (.ref D) us = some b ∧ Q (.bl b) H
theorem call_isKT {X : Cx} : CallR X (.builtin "isinstance") (rIsKT X.K) := by
  intro pins s σ H xs us Q I r h
  obtain ⟨a, D, tp, d, cs, ws, b, rfl, hE, hd, C, hT, k, e, q⟩ := h
  obtain ⟨u1, u2, rfl, r1, r2⟩ := vals2 r
  cases (show u1 = Value.ref a from r1)
  cases (show u2 = Value.ref tp from r2)
  obtain ⟨oe, od, J⟩ := inst_of I hE hd
  obtain ⟨_, its, rv, o, h1, h2, n, h3⟩ := (show ObjOk X.prog X.w H s.heap tp (.tup cs) from I.hok tp _ hT)
  have e3 := ClsV.all k rv
  subst e3
  obtain ⟨oc, od2, dt, sl⟩ := o
  simp only at h2 h3
  subst h2 h3
  exact PySem.W.kia_tup (PySem.W.kitx_exc (excC_cl C) C.hg C.hk C.hs C.ha C.hn C.ht C.hm) I.kIn J h1 e (fun z => nomatch z) fun tk => ⟨.bl b, H, I.kept (t' := tk) fun _ _ z => z, rfl, q⟩
theorem kit_any {K : PySem.W.Frag} {CA : Str → Addr} {nm : Str} (C : ClsF K CA nm) : ∀ l : List Str, (∀ n ∈ l, n ∈ six ++ (oddA ++ oddB)) → PySem.W.kitAny K (.ref (CA nm)) (l.map fun n => .ref (CA n)) = some (decide (nm ∈ l))
  | [], _ => rfl
  | n :: t, h => by
    have e := C.ki n (h n (List.mem_cons_self ..))
    refine kitAny_cons e (fun z => ?_) (fun z => ?_)
    · rw [kit_any C t fun x hx => h x (List.mem_cons_of_mem _ hx)]
      have z := of_decide_eq_false z
      congr 1
      rw [decide_eq_decide, List.mem_cons]
      exact ⟨.inr, fun y => y.resolve_left fun q => z q.symm⟩
    · have z := of_decide_eq_true z
      exact decide_eq_true (by rw [z]; exact List.mem_cons_self ..)
def wordOf (nm : Str) : Str := if nm ∈ six then nm else "odd"
section
variable {P : Program} {w : World} {K : PySem.W.Frag} {mg : Str → Option Value} {base : Heap}
/-! _law_class: slots 0:caught 1:found 2:is_base -/
abbrev s_law_class : Stmt := topS 53
theorem sc_law_class : FnScope ["caught", "found", "is_base"] ["caught"] (defScope s_law_class) := ⟨rfl, rfl, rfl, by decide +kernel, rfl, by decide +kernel, by decide +kernel⟩
def sp_law_class (K : PySem.W.Frag) (CA : Str → Addr) : Sp := fun vs H Q _ => ∃ (a : Addr) (nm : Str) (d : Option Addr), vs = [.ref a] ∧ H a = some (ExD (.ref (CA nm)) d a) ∧ DOk H d ∧ ClsF K CA nm ∧ nm ∈ six ++ (oddA ++ oddB) ∧ ∀ H', Same H H' → Q (.str (wordOf nm)) H'
theorem ok_law_class {CA : Str → Addr} (D : Df K mg "_law_class" s_law_class) (T : Tx mg) (CM : Cmg mg CA) : Has P w K mg base 1 "_law_class" ["caught"] (sp_law_class K CA) := by
  refine has_of D sc_law_class (fun _ _ _ _ _ _ us hl => match us, hl with | [_], _ => rfl) (fun vs H Q E h => ?_) (fun f cdv A outer s₀ H vs Q E hr h => ?_)
  · obtain ⟨_, _, _, rfl, _⟩ := h
    rfl
  · obtain ⟨a, nm, d, rfl, hE, hd, C, hn, q⟩ := h
    refine ⟨_, (pss_cons (ps_set (i := 1) sc_law_class.nd rfl (by first | exact Or.inl rfl | exact Or.inr rfl) (pe_lst pa_nil))
    (pss_cons (ps_if (pt_val (pe_callB call_isK (by rfl) T.n_isinstance (by decide +kernel) (pa_cons (pv 0) (pa_cons (pe_glob (v := .ref (CA "InvalidSequence")) (by rfl) (CM.all "InvalidSequence" (by decide)) rfl) pa_nil)))) (pss_one (ps_expr (pe_bm PySem.F.plainAttrs_list PySem.F.slot_list_append PySem.F.type_list_append mt_append (pv 1) (pa_cons pe_str pa_nil)))) pss_nil)
    (pss_cons (ps_if (pt_val (pe_callB call_isK (by rfl) T.n_isinstance (by decide +kernel) (pa_cons (pv 0) (pa_cons (pe_glob (v := .ref (CA "InvalidState")) (by rfl) (CM.all "InvalidState" (by decide)) rfl) pa_nil)))) (pss_one (ps_expr (pe_bm PySem.F.plainAttrs_list PySem.F.slot_list_append PySem.F.type_list_append mt_append (pv 1) (pa_cons pe_str pa_nil)))) pss_nil)
    (pss_cons (ps_if (pt_val (pe_callB call_isK (by rfl) T.n_isinstance (by decide +kernel) (pa_cons (pv 0) (pa_cons (pe_glob (v := .ref (CA "InvalidPosition")) (by rfl) (CM.all "InvalidPosition" (by decide)) rfl) pa_nil)))) (pss_one (ps_expr (pe_bm PySem.F.plainAttrs_list PySem.F.slot_list_append PySem.F.type_list_append mt_append (pv 1) (pa_cons pe_str pa_nil)))) pss_nil)
    (pss_cons (ps_if (pt_val (pe_callB call_isK (by rfl) T.n_isinstance (by decide +kernel) (pa_cons (pv 0) (pa_cons (pe_glob (v := .ref (CA "InvalidNumber")) (by rfl) (CM.all "InvalidNumber" (by decide)) rfl) pa_nil)))) (pss_one (ps_expr (pe_bm PySem.F.plainAttrs_list PySem.F.slot_list_append PySem.F.type_list_append mt_append (pv 1) (pa_cons pe_str pa_nil)))) pss_nil)
    (pss_cons (ps_if (pt_val (pe_callB call_isK (by rfl) T.n_isinstance (by decide +kernel) (pa_cons (pv 0) (pa_cons (pe_glob (v := .ref (CA "InvalidItems")) (by rfl) (CM.all "InvalidItems" (by decide)) rfl) pa_nil)))) (pss_one (ps_expr (pe_bm PySem.F.plainAttrs_list PySem.F.slot_list_append PySem.F.type_list_append mt_append (pv 1) (pa_cons pe_str pa_nil)))) pss_nil)
    (pss_cons (ps_if (pt_val (pe_callB call_isK (by rfl) T.n_isinstance (by decide +kernel) (pa_cons (pv 0) (pa_cons (pe_glob (v := .ref (CA "TooLong")) (by rfl) (CM.all "TooLong" (by decide)) rfl) pa_nil)))) (pss_one (ps_expr (pe_bm PySem.F.plainAttrs_list PySem.F.slot_list_append PySem.F.type_list_append mt_append (pv 1) (pa_cons pe_str pa_nil)))) pss_nil)
    (pss_cons (ps_if (pt_val (pe_callB call_isKT (by rfl) T.n_isinstance (by decide +kernel) (pa_cons (pv 0) (pa_cons (pe_tup (pa_cons (pe_glob (v := .ref (CA "Contradiction")) (by rfl) (CM.all "Contradiction" (by decide)) rfl) (pa_cons (pe_glob (v := .ref (CA "Impossible")) (by rfl) (CM.all "Impossible" (by decide)) rfl) (pa_cons (pe_glob (v := .ref (CA "InvalidCommand")) (by rfl) (CM.all "InvalidCommand" (by decide)) rfl) (pa_cons (pe_glob (v := .ref (CA "InvalidCounts")) (by rfl) (CM.all "InvalidCounts" (by decide)) rfl) (pa_cons (pe_glob (v := .ref (CA "InvalidEffects")) (by rfl) (CM.all "InvalidEffects" (by decide)) rfl) (pa_cons (pe_glob (v := .ref (CA "InvalidKind")) (by rfl) (CM.all "InvalidKind" (by decide)) rfl) pa_nil))))))) pa_nil)))) (pss_one (ps_expr (pe_bm PySem.F.plainAttrs_list PySem.F.slot_list_append PySem.F.type_list_append mt_append (pv 1) (pa_cons pe_str pa_nil)))) pss_nil)
    (pss_cons (ps_if (pt_val (pe_callB call_isKT (by rfl) T.n_isinstance (by decide +kernel) (pa_cons (pv 0) (pa_cons (pe_tup (pa_cons (pe_glob (v := .ref (CA "InvalidKinds")) (by rfl) (CM.all "InvalidKinds" (by decide)) rfl) (pa_cons (pe_glob (v := .ref (CA "InvalidRecord")) (by rfl) (CM.all "InvalidRecord" (by decide)) rfl) (pa_cons (pe_glob (v := .ref (CA "InvalidText")) (by rfl) (CM.all "InvalidText" (by decide)) rfl) (pa_cons (pe_glob (v := .ref (CA "NothingToUndo")) (by rfl) (CM.all "NothingToUndo" (by decide)) rfl) (pa_cons (pe_glob (v := .ref (CA "SameEffect")) (by rfl) (CM.all "SameEffect" (by decide)) rfl) (pa_cons (pe_glob (v := .ref (CA "TooMany")) (by rfl) (CM.all "TooMany" (by decide)) rfl) pa_nil))))))) pa_nil)))) (pss_one (ps_expr (pe_bm PySem.F.plainAttrs_list PySem.F.slot_list_append PySem.F.type_list_append mt_append (pv 1) (pa_cons pe_str pa_nil)))) pss_nil)
    (pss_cons (ps_set (i := 2) sc_law_class.nd rfl (by first | exact Or.inl rfl | exact Or.inr rfl) (pe_and (pe_callB call_isK (by rfl) T.n_isinstance (by decide +kernel) (pa_cons (pv 0) (pa_cons (pe_glob (v := .ref (CA "PairError")) (by rfl) (CM.all "PairError" (by decide)) rfl) pa_nil))) (pe_one (pe_callB call_isK (by rfl) T.n_isinstance (by decide +kernel) (pa_cons (pv 0) (pa_cons (pe_bltn (v := .ty "ValueError") (by rfl) T.n_ValueError (by decide +kernel) rfl) pa_nil))))))
    (pss_one (ps_ret (pe_ifExp (PW.pt (pw_and (pt_val (pv 2)) (pw_and1 (pt_cmpR op_eq (pe_callB call_len_seq (by rfl) T.n_len (by decide +kernel) (pa_cons (pv 1) pa_nil)) pe_int (nomark _))))) (pe_ix ix_list (pv 1) pe_int (fun _ _ => rfl)) pe_str))))))))))))), ?_⟩
    refine ⟨Nat.zero_le _, fun l nl => ?_⟩
    have s1 := same_upd (o := .lst []) nl
    have hE1 := s1 _ _ hE
    have hd1 := hd.same s1
    have hl : (upd H l (.lst [])) l = some (.lst []) := upd_same
    have kA := kit_any C oddA (by decide +kernel)
    have kB := kit_any C oddB (by decide +kernel)
    have hw : (nm = "InvalidSequence" ∨ nm = "InvalidState" ∨ nm = "InvalidPosition" ∨ nm = "InvalidNumber" ∨ nm = "InvalidItems" ∨ nm = "TooLong") ∨ nm ∈ oddA ∨ nm ∈ oddB := by
      rcases List.mem_append.mp hn with h | h
      · exact .inl (by simpa [six] using h)
      · exact .inr (List.mem_append.mp h)
    have noA : nm ∈ oddA → nm ∉ six ∧ nm ∉ oddB := (show ∀ n ∈ oddA, n ∉ six ∧ n ∉ oddB by decide +kernel) nm
    have noB : nm ∈ oddB → nm ∉ six ∧ nm ∉ oddA := (show ∀ n ∈ oddB, n ∉ six ∧ n ∉ oddA by decide +kernel) nm
    generalize hH1 : upd H l (.lst []) = H1 at *
    have s2 : ∀ xs, Same H (upd H1 l (.lst xs)) := fun xs b o e => by
      rw [upd_ne (ne_of_none e nl)]
      exact s1 _ _ e
    have s3 : ∀ {x : Str} {t1 t2 : Addr} {o1 o2 : HO}, (upd H1 l (.lst [.str x])) t1 = none → (upd (upd H1 l (.lst [.str x])) t1 o1) t2 = none → Same H (upd (upd (upd H1 l (.lst [.str x])) t1 o1) t2 o2) := fun n1 n2 => (s2 _).trans ((same_upd n1).trans (same_upd n2))
    have tupA : Paired ClsV (oddA.map fun n => V.ref (CA n)) (oddA.map fun n => Value.ref (CA n)) := .cons (.own _) (.cons (.own _) (.cons (.own _) (.cons (.own _) (.cons (.own _) (.cons (.own _) .nil)))))
    have tupB : Paired ClsV (oddB.map fun n => V.ref (CA n)) (oddB.map fun n => Value.ref (CA n)) := .cons (.own _) (.cons (.own _) (.cons (.own _) (.cons (.own _) (.cons (.own _) (.cons (.own _) .nil)))))
    rcases hw with hw | hw
    · have wq : wordOf nm = nm := if_pos (by rcases hw with rfl | rfl | rfl | rfl | rfl | rfl <;> decide +kernel)
      rw [wq] at q
      have hE2 : (upd H1 l (.lst [.str nm])) a = some (ExD (.ref (CA nm)) d a) := s2 _ _ _ hE
      have hd2 : DOk (upd H1 l (.lst [.str nm])) d := hd.same (s2 _)
      have hl2 : (upd H1 l (.lst [.str nm])) l = some (.lst [.str nm]) := upd_same
      rcases hw with rfl | rfl | rfl | rfl | rfl | rfl
      · refine ⟨_, rfl, a, _, _, _, _, _, rfl, hE1, hd1, C.ex, (fun u r => r), C.ki "InvalidSequence" (by decide +kernel), _, rfl, iteP (by decide +kernel) ⟨_, rfl, .inl ⟨rfl, _, SqL.of hl⟩, l, _, _, rfl, rfl, hl, (by decide), ?_⟩⟩
        refine ⟨_, rfl, a, _, _, _, _, _, rfl, hE2, hd2, C.ex, (fun u r => r), C.ki "InvalidState" (by decide +kernel), _, rfl, iteN (by decide +kernel) ?_⟩
        refine ⟨_, rfl, a, _, _, _, _, _, rfl, hE2, hd2, C.ex, (fun u r => r), C.ki "InvalidPosition" (by decide +kernel), _, rfl, iteN (by decide +kernel) ?_⟩
        refine ⟨_, rfl, a, _, _, _, _, _, rfl, hE2, hd2, C.ex, (fun u r => r), C.ki "InvalidNumber" (by decide +kernel), _, rfl, iteN (by decide +kernel) ?_⟩
        refine ⟨_, rfl, a, _, _, _, _, _, rfl, hE2, hd2, C.ex, (fun u r => r), C.ki "InvalidItems" (by decide +kernel), _, rfl, iteN (by decide +kernel) ?_⟩
        refine ⟨_, rfl, a, _, _, _, _, _, rfl, hE2, hd2, C.ex, (fun u r => r), C.ki "TooLong" (by decide +kernel), _, rfl, iteN (by decide +kernel) ?_⟩
        refine ⟨_, rfl, (by show 6 ≤ sizeLine; decide), fun t1 n1 => ⟨a, _, t1, _, _, _, _, rfl, same_upd n1 _ _ hE2, hd2.same (same_upd n1), C.ex, upd_same, tupA, kA, _, rfl, iteN (by decide +kernel) ?_⟩⟩
        refine ⟨_, rfl, (by show 6 ≤ sizeLine; decide), fun t2 n2 => ⟨a, _, t2, _, _, _, _, rfl, same_upd n2 _ _ (same_upd n1 _ _ hE2), (hd2.same (same_upd n1)).same (same_upd n2), C.ex, upd_same, tupB, kB, _, rfl, iteN (by decide +kernel) ?_⟩⟩
        refine ⟨_, rfl, a, _, _, _, _, _, rfl, same_upd n2 _ _ (same_upd n1 _ _ hE2), (hd2.same (same_upd n1)).same (same_upd n2), C.ex, (fun u r => r), C.kp, true, rfl, iteT ⟨_, rfl, a, _, _, _, _, _, rfl, same_upd n2 _ _ (same_upd n1 _ _ hE2), (hd2.same (same_upd n1)).same (same_upd n2), C.ex, (fun u r => r), C.kv, ?_⟩⟩
        exact ⟨_, rfl, true, rfl, iteT ⟨_, rfl, l, _, rfl, .inl (.of (same_upd n2 _ _ (same_upd n1 _ _ hl2))), rfl, _, rfl, iteP rfl ⟨_, rfl, l, _, 0, _, rfl, rfl, .of (same_upd n2 _ _ (same_upd n1 _ _ hl2)), rfl, q _ (s3 n1 n2)⟩⟩⟩
      · refine ⟨_, rfl, a, _, _, _, _, _, rfl, hE1, hd1, C.ex, (fun u r => r), C.ki "InvalidSequence" (by decide +kernel), _, rfl, iteN (by decide +kernel) ?_⟩
        refine ⟨_, rfl, a, _, _, _, _, _, rfl, hE1, hd1, C.ex, (fun u r => r), C.ki "InvalidState" (by decide +kernel), _, rfl, iteP (by decide +kernel) ⟨_, rfl, .inl ⟨rfl, _, SqL.of hl⟩, l, _, _, rfl, rfl, hl, (by decide), ?_⟩⟩
        refine ⟨_, rfl, a, _, _, _, _, _, rfl, hE2, hd2, C.ex, (fun u r => r), C.ki "InvalidPosition" (by decide +kernel), _, rfl, iteN (by decide +kernel) ?_⟩
        refine ⟨_, rfl, a, _, _, _, _, _, rfl, hE2, hd2, C.ex, (fun u r => r), C.ki "InvalidNumber" (by decide +kernel), _, rfl, iteN (by decide +kernel) ?_⟩
        refine ⟨_, rfl, a, _, _, _, _, _, rfl, hE2, hd2, C.ex, (fun u r => r), C.ki "InvalidItems" (by decide +kernel), _, rfl, iteN (by decide +kernel) ?_⟩
        refine ⟨_, rfl, a, _, _, _, _, _, rfl, hE2, hd2, C.ex, (fun u r => r), C.ki "TooLong" (by decide +kernel), _, rfl, iteN (by decide +kernel) ?_⟩
        refine ⟨_, rfl, (by show 6 ≤ sizeLine; decide), fun t1 n1 => ⟨a, _, t1, _, _, _, _, rfl, same_upd n1 _ _ hE2, hd2.same (same_upd n1), C.ex, upd_same, tupA, kA, _, rfl, iteN (by decide +kernel) ?_⟩⟩
        refine ⟨_, rfl, (by show 6 ≤ sizeLine; decide), fun t2 n2 => ⟨a, _, t2, _, _, _, _, rfl, same_upd n2 _ _ (same_upd n1 _ _ hE2), (hd2.same (same_upd n1)).same (same_upd n2), C.ex, upd_same, tupB, kB, _, rfl, iteN (by decide +kernel) ?_⟩⟩
        refine ⟨_, rfl, a, _, _, _, _, _, rfl, same_upd n2 _ _ (same_upd n1 _ _ hE2), (hd2.same (same_upd n1)).same (same_upd n2), C.ex, (fun u r => r), C.kp, true, rfl, iteT ⟨_, rfl, a, _, _, _, _, _, rfl, same_upd n2 _ _ (same_upd n1 _ _ hE2), (hd2.same (same_upd n1)).same (same_upd n2), C.ex, (fun u r => r), C.kv, ?_⟩⟩
        exact ⟨_, rfl, true, rfl, iteT ⟨_, rfl, l, _, rfl, .inl (.of (same_upd n2 _ _ (same_upd n1 _ _ hl2))), rfl, _, rfl, iteP rfl ⟨_, rfl, l, _, 0, _, rfl, rfl, .of (same_upd n2 _ _ (same_upd n1 _ _ hl2)), rfl, q _ (s3 n1 n2)⟩⟩⟩
      · refine ⟨_, rfl, a, _, _, _, _, _, rfl, hE1, hd1, C.ex, (fun u r => r), C.ki "InvalidSequence" (by decide +kernel), _, rfl, iteN (by decide +kernel) ?_⟩
        refine ⟨_, rfl, a, _, _, _, _, _, rfl, hE1, hd1, C.ex, (fun u r => r), C.ki "InvalidState" (by decide +kernel), _, rfl, iteN (by decide +kernel) ?_⟩
        refine ⟨_, rfl, a, _, _, _, _, _, rfl, hE1, hd1, C.ex, (fun u r => r), C.ki "InvalidPosition" (by decide +kernel), _, rfl, iteP (by decide +kernel) ⟨_, rfl, .inl ⟨rfl, _, SqL.of hl⟩, l, _, _, rfl, rfl, hl, (by decide), ?_⟩⟩
        refine ⟨_, rfl, a, _, _, _, _, _, rfl, hE2, hd2, C.ex, (fun u r => r), C.ki "InvalidNumber" (by decide +kernel), _, rfl, iteN (by decide +kernel) ?_⟩
        refine ⟨_, rfl, a, _, _, _, _, _, rfl, hE2, hd2, C.ex, (fun u r => r), C.ki "InvalidItems" (by decide +kernel), _, rfl, iteN (by decide +kernel) ?_⟩
        refine ⟨_, rfl, a, _, _, _, _, _, rfl, hE2, hd2, C.ex, (fun u r => r), C.ki "TooLong" (by decide +kernel), _, rfl, iteN (by decide +kernel) ?_⟩
        refine ⟨_, rfl, (by show 6 ≤ sizeLine; decide), fun t1 n1 => ⟨a, _, t1, _, _, _, _, rfl, same_upd n1 _ _ hE2, hd2.same (same_upd n1), C.ex, upd_same, tupA, kA, _, rfl, iteN (by decide +kernel) ?_⟩⟩
        refine ⟨_, rfl, (by show 6 ≤ sizeLine; decide), fun t2 n2 => ⟨a, _, t2, _, _, _, _, rfl, same_upd n2 _ _ (same_upd n1 _ _ hE2), (hd2.same (same_upd n1)).same (same_upd n2), C.ex, upd_same, tupB, kB, _, rfl, iteN (by decide +kernel) ?_⟩⟩
        refine ⟨_, rfl, a, _, _, _, _, _, rfl, same_upd n2 _ _ (same_upd n1 _ _ hE2), (hd2.same (same_upd n1)).same (same_upd n2), C.ex, (fun u r => r), C.kp, true, rfl, iteT ⟨_, rfl, a, _, _, _, _, _, rfl, same_upd n2 _ _ (same_upd n1 _ _ hE2), (hd2.same (same_upd n1)).same (same_upd n2), C.ex, (fun u r => r), C.kv, ?_⟩⟩
        exact ⟨_, rfl, true, rfl, iteT ⟨_, rfl, l, _, rfl, .inl (.of (same_upd n2 _ _ (same_upd n1 _ _ hl2))), rfl, _, rfl, iteP rfl ⟨_, rfl, l, _, 0, _, rfl, rfl, .of (same_upd n2 _ _ (same_upd n1 _ _ hl2)), rfl, q _ (s3 n1 n2)⟩⟩⟩
      · refine ⟨_, rfl, a, _, _, _, _, _, rfl, hE1, hd1, C.ex, (fun u r => r), C.ki "InvalidSequence" (by decide +kernel), _, rfl, iteN (by decide +kernel) ?_⟩
        refine ⟨_, rfl, a, _, _, _, _, _, rfl, hE1, hd1, C.ex, (fun u r => r), C.ki "InvalidState" (by decide +kernel), _, rfl, iteN (by decide +kernel) ?_⟩
        refine ⟨_, rfl, a, _, _, _, _, _, rfl, hE1, hd1, C.ex, (fun u r => r), C.ki "InvalidPosition" (by decide +kernel), _, rfl, iteN (by decide +kernel) ?_⟩
        refine ⟨_, rfl, a, _, _, _, _, _, rfl, hE1, hd1, C.ex, (fun u r => r), C.ki "InvalidNumber" (by decide +kernel), _, rfl, iteP (by decide +kernel) ⟨_, rfl, .inl ⟨rfl, _, SqL.of hl⟩, l, _, _, rfl, rfl, hl, (by decide), ?_⟩⟩
        refine ⟨_, rfl, a, _, _, _, _, _, rfl, hE2, hd2, C.ex, (fun u r => r), C.ki "InvalidItems" (by decide +kernel), _, rfl, iteN (by decide +kernel) ?_⟩
        refine ⟨_, rfl, a, _, _, _, _, _, rfl, hE2, hd2, C.ex, (fun u r => r), C.ki "TooLong" (by decide +kernel), _, rfl, iteN (by decide +kernel) ?_⟩
        refine ⟨_, rfl, (by show 6 ≤ sizeLine; decide), fun t1 n1 => ⟨a, _, t1, _, _, _, _, rfl, same_upd n1 _ _ hE2, hd2.same (same_upd n1), C.ex, upd_same, tupA, kA, _, rfl, iteN (by decide +kernel) ?_⟩⟩
        refine ⟨_, rfl, (by show 6 ≤ sizeLine; decide), fun t2 n2 => ⟨a, _, t2, _, _, _, _, rfl, same_upd n2 _ _ (same_upd n1 _ _ hE2), (hd2.same (same_upd n1)).same (same_upd n2), C.ex, upd_same, tupB, kB, _, rfl, iteN (by decide +kernel) ?_⟩⟩
        refine ⟨_, rfl, a, _, _, _, _, _, rfl, same_upd n2 _ _ (same_upd n1 _ _ hE2), (hd2.same (same_upd n1)).same (same_upd n2), C.ex, (fun u r => r), C.kp, true, rfl, iteT ⟨_, rfl, a, _, _, _, _, _, rfl, same_upd n2 _ _ (same_upd n1 _ _ hE2), (hd2.same (same_upd n1)).same (same_upd n2), C.ex, (fun u r => r), C.kv, ?_⟩⟩
        exact ⟨_, rfl, true, rfl, iteT ⟨_, rfl, l, _, rfl, .inl (.of (same_upd n2 _ _ (same_upd n1 _ _ hl2))), rfl, _, rfl, iteP rfl ⟨_, rfl, l, _, 0, _, rfl, rfl, .of (same_upd n2 _ _ (same_upd n1 _ _ hl2)), rfl, q _ (s3 n1 n2)⟩⟩⟩
      · refine ⟨_, rfl, a, _, _, _, _, _, rfl, hE1, hd1, C.ex, (fun u r => r), C.ki "InvalidSequence" (by decide +kernel), _, rfl, iteN (by decide +kernel) ?_⟩
        refine ⟨_, rfl, a, _, _, _, _, _, rfl, hE1, hd1, C.ex, (fun u r => r), C.ki "InvalidState" (by decide +kernel), _, rfl, iteN (by decide +kernel) ?_⟩
        refine ⟨_, rfl, a, _, _, _, _, _, rfl, hE1, hd1, C.ex, (fun u r => r), C.ki "InvalidPosition" (by decide +kernel), _, rfl, iteN (by decide +kernel) ?_⟩
        refine ⟨_, rfl, a, _, _, _, _, _, rfl, hE1, hd1, C.ex, (fun u r => r), C.ki "InvalidNumber" (by decide +kernel), _, rfl, iteN (by decide +kernel) ?_⟩
        refine ⟨_, rfl, a, _, _, _, _, _, rfl, hE1, hd1, C.ex, (fun u r => r), C.ki "InvalidItems" (by decide +kernel), _, rfl, iteP (by decide +kernel) ⟨_, rfl, .inl ⟨rfl, _, SqL.of hl⟩, l, _, _, rfl, rfl, hl, (by decide), ?_⟩⟩
        refine ⟨_, rfl, a, _, _, _, _, _, rfl, hE2, hd2, C.ex, (fun u r => r), C.ki "TooLong" (by decide +kernel), _, rfl, iteN (by decide +kernel) ?_⟩
        refine ⟨_, rfl, (by show 6 ≤ sizeLine; decide), fun t1 n1 => ⟨a, _, t1, _, _, _, _, rfl, same_upd n1 _ _ hE2, hd2.same (same_upd n1), C.ex, upd_same, tupA, kA, _, rfl, iteN (by decide +kernel) ?_⟩⟩
        refine ⟨_, rfl, (by show 6 ≤ sizeLine; decide), fun t2 n2 => ⟨a, _, t2, _, _, _, _, rfl, same_upd n2 _ _ (same_upd n1 _ _ hE2), (hd2.same (same_upd n1)).same (same_upd n2), C.ex, upd_same, tupB, kB, _, rfl, iteN (by decide +kernel) ?_⟩⟩
        refine ⟨_, rfl, a, _, _, _, _, _, rfl, same_upd n2 _ _ (same_upd n1 _ _ hE2), (hd2.same (same_upd n1)).same (same_upd n2), C.ex, (fun u r => r), C.kp, true, rfl, iteT ⟨_, rfl, a, _, _, _, _, _, rfl, same_upd n2 _ _ (same_upd n1 _ _ hE2), (hd2.same (same_upd n1)).same (same_upd n2), C.ex, (fun u r => r), C.kv, ?_⟩⟩
        exact ⟨_, rfl, true, rfl, iteT ⟨_, rfl, l, _, rfl, .inl (.of (same_upd n2 _ _ (same_upd n1 _ _ hl2))), rfl, _, rfl, iteP rfl ⟨_, rfl, l, _, 0, _, rfl, rfl, .of (same_upd n2 _ _ (same_upd n1 _ _ hl2)), rfl, q _ (s3 n1 n2)⟩⟩⟩
      · refine ⟨_, rfl, a, _, _, _, _, _, rfl, hE1, hd1, C.ex, (fun u r => r), C.ki "InvalidSequence" (by decide +kernel), _, rfl, iteN (by decide +kernel) ?_⟩
        refine ⟨_, rfl, a, _, _, _, _, _, rfl, hE1, hd1, C.ex, (fun u r => r), C.ki "InvalidState" (by decide +kernel), _, rfl, iteN (by decide +kernel) ?_⟩
        refine ⟨_, rfl, a, _, _, _, _, _, rfl, hE1, hd1, C.ex, (fun u r => r), C.ki "InvalidPosition" (by decide +kernel), _, rfl, iteN (by decide +kernel) ?_⟩
        refine ⟨_, rfl, a, _, _, _, _, _, rfl, hE1, hd1, C.ex, (fun u r => r), C.ki "InvalidNumber" (by decide +kernel), _, rfl, iteN (by decide +kernel) ?_⟩
        refine ⟨_, rfl, a, _, _, _, _, _, rfl, hE1, hd1, C.ex, (fun u r => r), C.ki "InvalidItems" (by decide +kernel), _, rfl, iteN (by decide +kernel) ?_⟩
        refine ⟨_, rfl, a, _, _, _, _, _, rfl, hE1, hd1, C.ex, (fun u r => r), C.ki "TooLong" (by decide +kernel), _, rfl, iteP (by decide +kernel) ⟨_, rfl, .inl ⟨rfl, _, SqL.of hl⟩, l, _, _, rfl, rfl, hl, (by decide), ?_⟩⟩
        refine ⟨_, rfl, (by show 6 ≤ sizeLine; decide), fun t1 n1 => ⟨a, _, t1, _, _, _, _, rfl, same_upd n1 _ _ hE2, hd2.same (same_upd n1), C.ex, upd_same, tupA, kA, _, rfl, iteN (by decide +kernel) ?_⟩⟩
        refine ⟨_, rfl, (by show 6 ≤ sizeLine; decide), fun t2 n2 => ⟨a, _, t2, _, _, _, _, rfl, same_upd n2 _ _ (same_upd n1 _ _ hE2), (hd2.same (same_upd n1)).same (same_upd n2), C.ex, upd_same, tupB, kB, _, rfl, iteN (by decide +kernel) ?_⟩⟩
        refine ⟨_, rfl, a, _, _, _, _, _, rfl, same_upd n2 _ _ (same_upd n1 _ _ hE2), (hd2.same (same_upd n1)).same (same_upd n2), C.ex, (fun u r => r), C.kp, true, rfl, iteT ⟨_, rfl, a, _, _, _, _, _, rfl, same_upd n2 _ _ (same_upd n1 _ _ hE2), (hd2.same (same_upd n1)).same (same_upd n2), C.ex, (fun u r => r), C.kv, ?_⟩⟩
        exact ⟨_, rfl, true, rfl, iteT ⟨_, rfl, l, _, rfl, .inl (.of (same_upd n2 _ _ (same_upd n1 _ _ hl2))), rfl, _, rfl, iteP rfl ⟨_, rfl, l, _, 0, _, rfl, rfl, .of (same_upd n2 _ _ (same_upd n1 _ _ hl2)), rfl, q _ (s3 n1 n2)⟩⟩⟩
    · have n6 : nm ∉ six := by
        rcases hw with h | h
        · exact (noA h).1
        · exact (noB h).1
      have wq : wordOf nm = "odd" := if_neg n6
      rw [wq] at q
      have no : ∀ m ∈ six, decide (m = nm) = false := fun m hm => decide_eq_false fun z => n6 (by rw [← z]; exact hm)
      have hE2 : (upd H1 l (.lst [.str "odd"])) a = some (ExD (.ref (CA nm)) d a) := s2 _ _ _ hE
      have hd2 : DOk (upd H1 l (.lst [.str "odd"])) d := hd.same (s2 _)
      have hl2 : (upd H1 l (.lst [.str "odd"])) l = some (.lst [.str "odd"]) := upd_same
      refine ⟨_, rfl, a, _, _, _, _, _, rfl, hE1, hd1, C.ex, (fun u r => r), C.ki "InvalidSequence" (by decide +kernel), _, rfl, iteN (no "InvalidSequence" (by decide +kernel)) ?_⟩
      refine ⟨_, rfl, a, _, _, _, _, _, rfl, hE1, hd1, C.ex, (fun u r => r), C.ki "InvalidState" (by decide +kernel), _, rfl, iteN (no "InvalidState" (by decide +kernel)) ?_⟩
      refine ⟨_, rfl, a, _, _, _, _, _, rfl, hE1, hd1, C.ex, (fun u r => r), C.ki "InvalidPosition" (by decide +kernel), _, rfl, iteN (no "InvalidPosition" (by decide +kernel)) ?_⟩
      refine ⟨_, rfl, a, _, _, _, _, _, rfl, hE1, hd1, C.ex, (fun u r => r), C.ki "InvalidNumber" (by decide +kernel), _, rfl, iteN (no "InvalidNumber" (by decide +kernel)) ?_⟩
      refine ⟨_, rfl, a, _, _, _, _, _, rfl, hE1, hd1, C.ex, (fun u r => r), C.ki "InvalidItems" (by decide +kernel), _, rfl, iteN (no "InvalidItems" (by decide +kernel)) ?_⟩
      refine ⟨_, rfl, a, _, _, _, _, _, rfl, hE1, hd1, C.ex, (fun u r => r), C.ki "TooLong" (by decide +kernel), _, rfl, iteN (no "TooLong" (by decide +kernel)) ?_⟩
      refine ⟨_, rfl, (by show 6 ≤ sizeLine; decide), fun t1 n1 => ⟨a, _, t1, _, _, _, _, rfl, same_upd n1 _ _ hE1, hd1.same (same_upd n1), C.ex, upd_same, tupA, kA, _, rfl, ?_⟩⟩
      have lt1 : l ≠ t1 := ne_of_none hl n1
      have nl1 : (upd H1 t1 (.tup (oddA.map fun n => V.ref (CA n)))) l = some (.lst []) := same_upd n1 _ _ hl
      have sT : ∀ {t1 : Addr} {o : HO}, H1 t1 = none → ∀ xs, Same H (upd (upd H1 t1 o) l (.lst xs)) := fun n1 xs b o e => by
        rw [upd_ne (ne_of_none e nl)]
        exact same_upd n1 _ _ (s1 _ _ e)
      rcases hw with hA | hB
      · refine iteP (decide_eq_true hA) ⟨_, rfl, .inl ⟨rfl, _, SqL.of nl1⟩, l, _, _, rfl, rfl, nl1, (by decide), ?_⟩
        have sA : Same H (upd (upd H1 t1 (.tup (oddA.map fun n => V.ref (CA n)))) l (.lst [.str "odd"])) := sT n1 _
        refine ⟨_, rfl, (by show 6 ≤ sizeLine; decide), fun t2 n2 => ⟨a, _, t2, _, _, _, _, rfl, same_upd n2 _ _ (sA _ _ hE), (hd.same sA).same (same_upd n2), C.ex, upd_same, tupB, kB, _, rfl, iteN (decide_eq_false (noA hA).2) ?_⟩⟩
        refine ⟨_, rfl, a, _, _, _, _, _, rfl, same_upd n2 _ _ (sA _ _ hE), (hd.same sA).same (same_upd n2), C.ex, (fun u r => r), C.kp, true, rfl, iteT ⟨_, rfl, a, _, _, _, _, _, rfl, same_upd n2 _ _ (sA _ _ hE), (hd.same sA).same (same_upd n2), C.ex, (fun u r => r), C.kv, ?_⟩⟩
        exact ⟨_, rfl, true, rfl, iteT ⟨_, rfl, l, _, rfl, .inl (.of (same_upd n2 _ _ upd_same)), rfl, _, rfl, iteP rfl ⟨_, rfl, l, _, 0, _, rfl, rfl, .of (same_upd n2 _ _ upd_same), rfl, q _ (sA.trans (same_upd n2))⟩⟩⟩
      · refine iteN (decide_eq_false (noB hB).2) ?_
        refine ⟨_, rfl, (by show 6 ≤ sizeLine; decide), fun t2 n2 => ⟨a, _, t2, _, _, _, _, rfl, same_upd n2 _ _ (same_upd n1 _ _ hE1), (hd1.same (same_upd n1)).same (same_upd n2), C.ex, upd_same, tupB, kB, _, rfl, iteP (decide_eq_true hB) ?_⟩⟩
        have s12 : Same H1 (upd (upd H1 t1 (.tup (oddA.map fun n => V.ref (CA n)))) t2 (.tup (oddB.map fun n => V.ref (CA n)))) := (same_upd n1).trans (same_upd n2)
        have nl2 := s12 _ _ hl
        refine ⟨_, rfl, .inl ⟨rfl, _, SqL.of nl2⟩, l, _, _, rfl, rfl, nl2, (by decide), ?_⟩
        have sA : Same H (upd (upd (upd H1 t1 (.tup (oddA.map fun n => V.ref (CA n)))) t2 (.tup (oddB.map fun n => V.ref (CA n)))) l (.lst [.str "odd"])) := fun b o e => by
          rw [upd_ne (ne_of_none e nl)]
          exact s12 _ _ (s1 _ _ e)
        refine ⟨_, rfl, a, _, _, _, _, _, rfl, sA _ _ hE, hd.same sA, C.ex, (fun u r => r), C.kp, true, rfl, iteT ⟨_, rfl, a, _, _, _, _, _, rfl, sA _ _ hE, hd.same sA, C.ex, (fun u r => r), C.kv, ?_⟩⟩
        exact ⟨_, rfl, true, rfl, iteT ⟨_, rfl, l, _, rfl, .inl (.of upd_same), rfl, _, rfl, iteP rfl ⟨_, rfl, l, _, 0, _, rfl, rfl, .of upd_same, rfl, q _ sA⟩⟩⟩
end
end UP

set_option Elab.async false
set_option linter.all false
set_option maxRecDepth 100000
set_option maxHeartbeats 4000000
namespace UP
open PySem PySem.Spec PyProof.Rows L2
/-! ### written values -/
def Lit (σ : L2.St) (H0 : Hp) (t : TE) (d : Dat) : Prop := ∀ H (Q : VK), Same H0 H → (∀ H' v, Same H H' → Rp H' v d → Q v H') → t σ H Q
def Lits (σ : L2.St) (H0 : Hp) (t : TA) (ds : List Dat) : Prop := ∀ H (Q : List V → Hp → Prop), Same H0 H → (∀ H' vs, Same H H' → Paired (Rp H') vs ds → Q vs H') → t σ H Q
section
variable {σ : L2.St} {H0 : Hp}
theorem Lit.go {H : Hp} {t : TE} {d : Dat} {Q : VK} (h : Lit σ H t d) (q : ∀ H' v, Same H H' → Rp H' v d → Q v H') : t σ H Q := h H Q (Same.refl _) q
theorem lit_non : Lit σ H0 (tC .non) .non := fun H Q _ q => q H _ (Same.refl _) .non
theorem lit_int {n : Int} : Lit σ H0 (tC (.int n)) (.int n) := fun H Q _ q => q H _ (Same.refl _) (.int n)
theorem lit_bl {b : Bool} : Lit σ H0 (tC (.bl b)) (.bl b) := fun H Q _ q => q H _ (Same.refl _) (.bl b)
theorem lit_str {z : Str} : Lit σ H0 (tC (.str z)) (.str z) := fun H Q _ q => q H _ (Same.refl _) (.str z)
theorem lit_dic : Lit σ H0 tDNewK .dic := fun H Q _ q p np => q _ _ (same_upd np) (.dic upd_same)
theorem lit_var {i : Nat} {v : V} {d : Dat} (e : σ[i]? = some (some v)) (h : Rp H0 v d) : Lit σ H0 (tVar i) d := fun H Q s q => ⟨v, e, q H v (Same.refl _) (h.same s)⟩
theorem lit_val {t : TE} {v : V} {d : Dat} (h : ∀ H (Q : VK), Q v H → t σ H Q) (r : ∀ H, Rp H v d) : Lit σ H0 t d := fun H Q _ q => h H Q (q H v (Same.refl _) (r H))
theorem lits_nil : Lits σ H0 tNil [] := fun H Q _ q => q H [] (Same.refl _) .nil
theorem lits_cons {t : TE} {ts : TA} {d : Dat} {ds : List Dat} (h1 : Lit σ H0 t d) (h2 : Lits σ H0 ts ds) : Lits σ H0 (tCons t ts) (d :: ds) := fun H Q s q => h1 H _ s fun H1 v s1 r1 => h2 H1 _ (s.trans s1) fun H2 vs s2 r2 => q H2 (v :: vs) (s1.trans s2) (.cons (r1.same s2) r2)
theorem rps_same {H H' : Hp} {xs : List V} {ds : List Dat} (s : Same H H') (h : Paired (Rp H) xs ds) : Paired (Rp H') xs ds := Paired.imp (fun _ _ => Rp.same s) h
theorem lit_lst {ts : TA} {ds : List Dat} (h : Lits σ H0 ts ds) (l : ds.length ≤ 1000) : Lit σ H0 (tLst ts) (.lst ds) := fun H Q s q => h H _ s fun H1 vs s1 r => ⟨by rw [Paired.len r]; exact smallE (by omega), fun p np => q _ _ (s1.trans (same_upd np)) (.lst upd_same (rps_same (same_upd np) r))⟩
theorem lit_tup {ts : TA} {ds : List Dat} (h : Lits σ H0 ts ds) (l : ds.length ≤ 1000) : Lit σ H0 (tTup ts) (.tup ds) := fun H Q s q => h H _ s fun H1 vs s1 r => ⟨by rw [Paired.len r]; exact smallE (by omega), fun p np => q _ _ (s1.trans (same_upd np)) (.tup upd_same (rps_same (same_upd np) r))⟩
theorem lit_cat {t u : TE} {a b : List Dat} (h1 : Lit σ H0 t (.lst a)) (h2 : Lit σ H0 u (.lst b)) (l : a.length + b.length ≤ 1000) : Lit σ H0 (tOp rCat t u) (.lst (a ++ b)) := fun H Q s q => h1 H _ s fun H1 v s1 r1 => h2 H1 _ (s.trans s1) fun H2 w s2 r2 => by
  cases r1.same s2 with
  | lst e1 p1 =>
    cases r2 with
    | lst e2 p2 =>
      refine ⟨_, _, _, _, rfl, rfl, e1, e2, ?_, fun p np => q _ _ (s1.trans (s2.trans (same_upd np))) (.lst upd_same (rps_same (same_upd np) (Paired.app p1 p2)))⟩
      rw [Paired.len p1, Paired.len p2]
      exact smallE (by omega)
theorem rep_pair {α β : Type} {F : α → β → Prop} {xs : List α} {ys : List β} (h : Paired F xs ys) : ∀ n : Nat, Paired F (List.replicate n xs).flatten (List.replicate n ys).flatten
  | 0 => .nil
  | n + 1 => by
    rw [List.replicate_succ, List.replicate_succ, List.flatten_cons, List.flatten_cons]
    exact Paired.app h (rep_pair h n)
theorem lit_rep {t : TE} {a : List Dat} {k : Int} (h1 : Lit σ H0 t (.lst a)) (k0 : 0 ≤ k) (k1 : k ≤ 1000) (l : a.length * k.toNat ≤ 1000) : Lit σ H0 (tOp rRep t (tC (.int k))) (.lst (List.replicate k.toNat a).flatten) := fun H Q s q => h1 H _ s fun H1 v s1 r1 => by
  cases r1 with
  | lst e1 p1 =>
    refine ⟨_, k, _, rfl, rfl, e1, by omega, by omega, ?_, fun p np => q _ _ (s1.trans (same_upd np)) (.lst upd_same (rps_same (same_upd np) (rep_pair p1 _)))⟩
    rw [Paired.len p1]
    exact smallE (by omega)
end
/-- an index into a written list -/
theorem rp_at {H : Hp} {v : V} {ds : List Dat} {i : Int} (h : Rp H v (.lst ds)) (i0 : 0 ≤ i) (i1 : i.toNat < ds.length) : ∃ a xs x, v = .ref a ∧ H a = some (.lst xs) ∧ atI xs i = some x ∧ Rp H x ds[i.toNat] := by
  cases h with
  | lst e p =>
    obtain ⟨x, ex, hx⟩ := Paired.at' p (List.getElem?_eq_getElem i1)
    exact ⟨_, _, x, rfl, e, atI_of i0 ex, hx⟩
theorem lit_set {t : TE} {d : Dat} {i : Nat} {D : Ends} {rest : TS} {σ : L2.St} {H : Hp} (h : Lit σ H t d) (q : ∀ H' v, Same H H' → Rp H' v d → rest D (σ.set i (some v)) H') : tSeq (tAsg t (gName i)) rest D σ H := h H _ (Same.refl _) q
theorem lit_retIx {K : PySem.W.Frag} {t u : TE} {ds : List Dat} {D : Ends} {σ : L2.St} {H : Hp} (h : Lit σ H t (.lst ds)) (q : ∀ H' v, Same H H' → Rp H' v (.lst ds) → u σ H' (fun y H2 => rIxL K v y H2 D.rt)) : tRet (tOp (rIxL K) t u) D σ H := h H _ (Same.refl _) q
/-! ### the spring is none of these values -/
def Dat.three : List Dat → Bool
  | [.int _, .int _, .int _] => true
  | _ => false
mutual
def Dat.calm : Dat → Bool
  | .lst l => (!Dat.three l) && Dat.calms l
  | .tup l => Dat.calms l
  | _ => true
def Dat.calms : List Dat → Bool
  | [] => true
  | x :: t => x.calm && Dat.calms t
end
theorem three_ints {H : Hp} {a b c : Int} {l : List Dat} (h : Paired (Rp H) [.int a, .int b, .int c] l) : l = [.int a, .int b, .int c] := by
  cases h with
  | cons h1 h =>
    cases h1
    cases h with
    | cons h2 h =>
      cases h2
      cases h with
      | cons h3 h =>
        cases h3
        cases h
        rfl
theorem Rp.butS {sp : Addr} {H H' : Hp} (z : Spr H sp) (b : But sp H H') {v : V} {d : Dat} (h : Rp H v d) : d.calm = true → Rp H' v d := by
  obtain ⟨x, y, n, hs, _⟩ := z
  refine Rp.rec (motive_1 := fun v d _ => d.calm = true → Rp H' v d) (motive_2 := fun xs l _ => Dat.calms l = true → Paired (Rp H') xs l) (fun _ => .non) (fun b _ => .bl b) (fun n _ => .int n) (fun z _ => .str z) ?_ ?_ ?_ (fun _ => .nil) ?_ h
  · intro a e _
    exact .dic (b _ _ (ne_of e hs (by intro q; cases q)) e)
  · intro a xs l e p ih c
    rw [Dat.calm, Bool.and_eq_true] at c
    refine .lst (b _ _ (fun q => ?_) e) (ih c.2)
    rw [q, hs] at e
    have e := HO.lst.inj (Option.some.inj e)
    subst e
    rw [three_ints p] at c
    exact absurd c.1 (by intro z; cases z)
  · intro a xs l e p ih c
    rw [Dat.calm] at c
    exact .tup (b _ _ (ne_of e hs (by intro q; cases q)) e) (ih c)
  · intro x y xs ys _ _ h1 h2 c
    rw [Dat.calms, Bool.and_eq_true] at c
    exact .cons (h1 c.1) (h2 c.2)
end UP

set_option Elab.async false
set_option linter.all false
set_option maxRecDepth 100000
set_option maxHeartbeats 4000000
namespace UP
open PySem PySem.Spec PyProof.Rows L2
/-! ### values that are new -/
/-- the part of the heap that is new since H0 -/
def newH (H0 H : Hp) : Hp := fun b => match H0 b with
  | none => H b
  | some _ => none
theorem newH_at {H0 H : Hp} {b : Addr} (h : H0 b = none) : newH H0 H b = H b := by
  unfold newH
  rw [h]
theorem newH_old {H0 H : Hp} {b : Addr} {o : HO} (h : H0 b = some o) : newH H0 H b = none := by
  unfold newH
  rw [h]
theorem newH_sub {H0 H : Hp} : Same (newH H0 H) H := fun b o e => by
  cases h : H0 b with
  | none => rw [newH_at h] at e; exact e
  | some o' => rw [newH_old h] at e; cases e
theorem newH_same {H0 H H' : Hp} (s : Same H H') : Same (newH H0 H) (newH H0 H') := fun b o e => by
  cases h : H0 b with
  | none => rw [newH_at h] at e ⊢; exact s _ _ e
  | some o' => rw [newH_old h] at e; cases e
theorem newH_upd {H0 H : Hp} {p : Addr} {o : HO} (h : H0 p = none) : newH H0 (upd H p o) p = some o := by
  rw [newH_at h, upd_same]
/-- an old address may change -/
theorem newH_skip {H0 H : Hp} {G : Addr} {o u : HO} (h : H0 G = some u) : newH H0 (upd H G o) = newH H0 H := by
  funext b
  by_cases e : b = G
  · rw [e, newH_old h, newH_old h]
  · unfold newH
    rw [upd_ne e]
theorem Rp.keepG {H0 H : Hp} {G : Addr} {o u : HO} {v : V} {d : Dat} (h : H0 G = some u) (r : Rp (newH H0 H) v d) : Rp (upd H G o) v d := by
  rw [← newH_skip (o := o) h] at r
  exact r.same newH_sub
def LitF (σ : L2.St) (H0 Hs : Hp) (t : TE) (d : Dat) : Prop := ∀ H (Q : VK), Same H0 H → Same Hs H → (∀ H' v, Same H H' → Rp (newH H0 H') v d → Q v H') → t σ H Q
def LitsF (σ : L2.St) (H0 Hs : Hp) (t : TA) (ds : List Dat) : Prop := ∀ H (Q : List V → Hp → Prop), Same H0 H → Same Hs H → (∀ H' vs, Same H H' → Paired (Rp (newH H0 H')) vs ds → Q vs H') → t σ H Q
section
variable {σ : L2.St} {H0 Hs : Hp}
theorem litF_val {t : TE} {v : V} {d : Dat} (h : ∀ H (Q : VK), Q v H → t σ H Q) (r : ∀ H, Rp H v d) : LitF σ H0 Hs t d := fun H Q _ _ q => h H Q (q H v (Same.refl _) (r _))
theorem litF_non : LitF σ H0 Hs (tC .non) .non := litF_val (fun _ _ q => q) (fun _ => .non)
theorem litF_int {n : Int} : LitF σ H0 Hs (tC (.int n)) (.int n) := litF_val (fun _ _ q => q) (fun _ => .int n)
theorem litF_bl {b : Bool} : LitF σ H0 Hs (tC (.bl b)) (.bl b) := litF_val (fun _ _ q => q) (fun _ => .bl b)
theorem litF_str {z : Str} : LitF σ H0 Hs (tC (.str z)) (.str z) := litF_val (fun _ _ q => q) (fun _ => .str z)
theorem litF_dic : LitF σ H0 Hs tDNewK .dic := fun H Q s _ q p np => q _ _ (same_upd np) (.dic (newH_upd (s.free np)))
theorem litsF_nil : LitsF σ H0 Hs tNil [] := fun H Q _ _ q => q H [] (Same.refl _) .nil
theorem litsF_cons {t : TE} {ts : TA} {d : Dat} {ds : List Dat} (h1 : LitF σ H0 Hs t d) (h2 : LitsF σ H0 Hs ts ds) : LitsF σ H0 Hs (tCons t ts) (d :: ds) := fun H Q s t q => h1 H _ s t fun H1 v s1 r1 => h2 H1 _ (s.trans s1) (t.trans s1) fun H2 vs s2 r2 => q H2 (v :: vs) (s1.trans s2) (.cons (r1.same (newH_same s2)) r2)
theorem litF_lst {ts : TA} {ds : List Dat} (h : LitsF σ H0 Hs ts ds) (l : ds.length ≤ 1000) : LitF σ H0 Hs (tLst ts) (.lst ds) := fun H Q s t q => h H _ s t fun H1 vs s1 r => ⟨by rw [Paired.len r]; exact smallE (by omega), fun p np => q _ _ (s1.trans (same_upd np)) (.lst (newH_upd ((s.trans s1).free np)) (rps_same (newH_same (same_upd np)) r))⟩
theorem litF_tup {ts : TA} {ds : List Dat} (h : LitsF σ H0 Hs ts ds) (l : ds.length ≤ 1000) : LitF σ H0 Hs (tTup ts) (.tup ds) := fun H Q s t q => h H _ s t fun H1 vs s1 r => ⟨by rw [Paired.len r]; exact smallE (by omega), fun p np => q _ _ (s1.trans (same_upd np)) (.tup (newH_upd ((s.trans s1).free np)) (rps_same (newH_same (same_upd np)) r))⟩
theorem litF_var {i : Nat} {v : V} {d : Dat} (e : σ[i]? = some (some v)) (h : Rp (newH H0 Hs) v d) : LitF σ H0 Hs (tVar i) d := fun H Q _ s q => ⟨v, e, q H v (Same.refl _) (h.same (newH_same s))⟩
theorem litF_cat {t u : TE} {a b : List Dat} (h1 : LitF σ H0 Hs t (.lst a)) (h2 : LitF σ H0 Hs u (.lst b)) (l : a.length + b.length ≤ 1000) : LitF σ H0 Hs (tOp rCat t u) (.lst (a ++ b)) := fun H Q s w q => h1 H _ s w fun H1 v s1 r1 => h2 H1 _ (s.trans s1) (w.trans s1) fun H2 x s2 r2 => by
  cases r1.same (newH_same s2) with
  | lst e1 p1 =>
    cases r2 with
    | lst e2 p2 =>
      refine ⟨_, _, _, _, rfl, rfl, newH_sub _ _ e1, newH_sub _ _ e2, ?_, fun p np => q _ _ (s1.trans (s2.trans (same_upd np))) (.lst (newH_upd ((s.trans (s1.trans s2)).free np)) (rps_same (newH_same (same_upd np)) (Paired.app p1 p2)))⟩
      rw [Paired.len p1, Paired.len p2]
      exact smallE (by omega)
end
theorem litF_set {t : TE} {d : Dat} {i : Nat} {D : Ends} {rest : TS} {σ : L2.St} {H0 H : Hp} (s : Same H0 H) (h : LitF σ H0 H t d) (q : ∀ H' v, Same H H' → Rp (newH H0 H') v d → rest D (σ.set i (some v)) H') : tSeq (tAsg t (gName i)) rest D σ H := h H _ s (Same.refl _) q
theorem litF_retIx {K : PySem.W.Frag} {t u : TE} {ds : List Dat} {D : Ends} {σ : L2.St} {H0 H : Hp} (s : Same H0 H) (h : LitF σ H0 H t (.lst ds)) (q : ∀ H' v, Same H H' → Rp (newH H0 H') v (.lst ds) → u σ H' (fun y H2 => rIxL K v y H2 D.rt)) : tRet (tOp (rIxL K) t u) D σ H := h H _ s (Same.refl _) q
theorem litF_setIx {K : PySem.W.Frag} {t u : TE} {ds : List Dat} {i : Nat} {D : Ends} {rest : TS} {σ : L2.St} {H0 H : Hp} (s : Same H0 H) (h : LitF σ H0 H t (.lst ds)) (q : ∀ H' v, Same H H' → Rp (newH H0 H') v (.lst ds) → u σ H' (fun y H2 => rIxL K v y H2 (fun x H3 => rest D (σ.set i (some x)) H3))) : tSeq (tAsg (tOp (rIxL K) t u) (gName i)) rest D σ H := h H _ s (Same.refl _) q
/-- the spring is old -/
theorem newH_but {H0 H H' : Hp} {sp : Addr} (z : Spr H0 sp) (b : But sp H H') : Same (newH H0 H) (newH H0 H') := fun x o e => by
  cases h : H0 x with
  | none =>
    rw [newH_at h] at e ⊢
    refine b _ _ (fun q => ?_) e
    obtain ⟨_, _, _, hs, _⟩ := z
    rw [q, hs] at h
    cases h
  | some o' =>
    rw [newH_old h] at e
    cases e
end UP

set_option Elab.async false
set_option linter.all false
set_option maxRecDepth 100000
set_option maxHeartbeats 4000000
namespace UP
open PySem PySem.Spec PyProof.Rows L2
def noState : List Dat := [.int 0, .str "a", .dic, .lst [], .tup [.str "a"], .tup [.str "a", .int 0], .tup [.str "a", .int (-1)], .tup [.str "a", .bl true], .tup [.str "A", .int 1], .tup [.str "", .int 1], .tup [.str "a", .int 1, .int 1], .tup [.int 1, .str "a"], .bl true] ++ [.tup [.str "abcdefghi", .int 1], .tup [.str "a", .non], .lst [.lst [.str "a"], .int 1]]
theorem noState_bad : ∀ d ∈ noState, d.state = false := by decide +kernel
def noSeq (xs : List Dat) : List Dat := (([.non, .int 0, .str "a", .dic, .lst [.non], .lst [.tup [.str "a", .int 0]], .lst [.tup [.str "a", .int ((10 : Int) ^ ((30 : Int).toNat) + 1)]], .lst [.tup [.str "a", .bl true]], .lst [.tup [.str "a", .str "1"]], .lst [.tup [.str "A", .int 1]]] ++ [.lst [.tup [.str "", .int 1]], .lst [.tup [.str "abcdefghi", .int 1]], .lst [.tup [.str "a", .int 1], .tup [.str "a", .int 1]], .lst [.tup [.str "a"]], .lst [.tup [.str "a", .int 1, .int 1]], .tup [.str "a", .int 1], .bl true, .lst [.tup []]]) ++ [.lst ((List.replicate (200 : Int).toNat [.tup [.str "a", .int 1], .tup [.str "b", .int 1]]).flatten ++ [.tup [.str "a", .int 1]]), .lst (xs ++ [.tup [.str "b", .int (-1)]]), .lst [.tup [.int 1, .int 1]], .lst [.tup [.str "a_", .int 1]]]) ++ [.lst [.lst [.str "a", .non]]]
section
variable {P : Program} {w : World} {K : PySem.W.Frag} {mg : Str → Option Value} {base : Heap}
/-! _law_no_state: slots 0:spring 1:some -/
abbrev s_law_no_state : Stmt := topS 52
theorem sc_law_no_state : FnScope ["spring", "some"] ["spring"] (defScope s_law_no_state) := ⟨rfl, rfl, rfl, by decide +kernel, rfl, by decide +kernel, by decide +kernel⟩
def sp_law_no_state : Sp := fun vs H Q _ => ∃ (sp : Addr), vs = [.ref sp] ∧ Spr H sp ∧ ∀ H' v d, But sp H H' → Spr H' sp → d ∈ noState → Rp (newH H H') v d → Q v H'
theorem ok_law_no_state (D : Df K mg "_law_no_state" s_law_no_state) (T : Tx mg) (G_law_draw : Has P w K mg base 1 "_law_draw" ["spring", "many"] sp_law_draw) : Has P w K mg base 2 "_law_no_state" ["spring"] sp_law_no_state := by
  refine has_of D sc_law_no_state (fun _ _ _ _ _ _ us hl => match us, hl with | [_], _ => rfl) (fun vs H Q E h => ?_) (fun f cdv A outer s₀ H vs Q E hr h => ?_)
  · obtain ⟨_, rfl, _⟩ := h
    rfl
  · obtain ⟨sp, rfl, hz, q⟩ := h
    refine ⟨_, (pss_cons (ps_set (i := 1) sc_law_no_state.nd rfl (by first | exact Or.inl rfl | exact Or.inr rfl) (pe_lst (pa_cons pe_int (pa_cons pe_str (pa_cons pe_dnewK (pa_cons (pe_lst pa_nil) (pa_cons (pe_tup (pa_cons pe_str pa_nil)) (pa_cons (pe_tup (pa_cons pe_str (pa_cons pe_int pa_nil))) (pa_cons (pe_tup (pa_cons pe_str (pa_cons (pe_un un_neg pe_int) pa_nil))) (pa_cons (pe_tup (pa_cons pe_str (pa_cons pe_bl pa_nil))) (pa_cons (pe_tup (pa_cons pe_str (pa_cons pe_int pa_nil))) (pa_cons (pe_tup (pa_cons pe_str (pa_cons pe_int pa_nil))) (pa_cons (pe_tup (pa_cons pe_str (pa_cons pe_int (pa_cons pe_int pa_nil)))) (pa_cons (pe_tup (pa_cons pe_int (pa_cons pe_str pa_nil))) (pa_cons pe_bl pa_nil)))))))))))))))
    (pss_one (ps_ret (pe_ix ix_list (pe_op op_cat (pv 1) (pe_lst (pa_cons (pe_tup (pa_cons pe_str (pa_cons pe_int pa_nil))) (pa_cons (pe_tup (pa_cons pe_str (pa_cons pe_non pa_nil))) (pa_cons (pe_lst (pa_cons (pe_lst (pa_cons pe_str pa_nil)) (pa_cons pe_int pa_nil))) pa_nil))))) (pe_callH G_law_draw (hr.mono (by omega)) (by rfl) (pa_cons (pv 0) (pa_cons pe_int pa_nil))) (fun _ _ => rfl))))), ?_⟩
    refine litF_set (Same.refl _) (d := .lst [.int 0, .str "a", .dic, .lst [], .tup [.str "a"], .tup [.str "a", .int 0], .tup [.str "a", .int (-1)], .tup [.str "a", .bl true], .tup [.str "A", .int 1], .tup [.str "", .int 1], .tup [.str "a", .int 1, .int 1], .tup [.int 1, .str "a"], .bl true]) (litF_lst (litsF_cons litF_int (litsF_cons litF_str (litsF_cons litF_dic (litsF_cons (litF_lst litsF_nil (by decide)) (litsF_cons (litF_tup (litsF_cons litF_str litsF_nil) (by decide)) (litsF_cons (litF_tup (litsF_cons litF_str (litsF_cons litF_int litsF_nil)) (by decide)) (litsF_cons (litF_tup (litsF_cons litF_str (litsF_cons (litF_val (v := .int (-1)) (fun H Q q => ⟨1, rfl, q⟩) (fun H => .int _)) litsF_nil)) (by decide)) (litsF_cons (litF_tup (litsF_cons litF_str (litsF_cons litF_bl litsF_nil)) (by decide)) (litsF_cons (litF_tup (litsF_cons litF_str (litsF_cons litF_int litsF_nil)) (by decide)) (litsF_cons (litF_tup (litsF_cons litF_str (litsF_cons litF_int litsF_nil)) (by decide)) (litsF_cons (litF_tup (litsF_cons litF_str (litsF_cons litF_int (litsF_cons litF_int litsF_nil))) (by decide)) (litsF_cons (litF_tup (litsF_cons litF_int (litsF_cons litF_str litsF_nil)) (by decide)) (litsF_cons litF_bl litsF_nil))))))))))))) (by decide)) (fun H1 v1 s1 r1 => ?_)
    refine litF_retIx s1 (litF_cat (litF_var rfl r1) (litF_lst (litsF_cons (litF_tup (litsF_cons litF_str (litsF_cons litF_int litsF_nil)) (by decide)) (litsF_cons (litF_tup (litsF_cons litF_str (litsF_cons litF_non litsF_nil)) (by decide)) (litsF_cons (litF_lst (litsF_cons (litF_lst (litsF_cons litF_str litsF_nil) (by decide)) (litsF_cons litF_int litsF_nil)) (by decide)) litsF_nil))) (by decide)) (by decide)) (fun H2 v2 s2 r2 => ?_)
    refine ⟨_, rfl, sp, 16, rfl, (hz.same s1).same s2, by decide, by decide, fun H3 r b3 z3 r0 r1' => ?_⟩
    have i16 : r.toNat < noState.length := by
      show r.toNat < 16
      omega
    obtain ⟨a, xs, x, rfl, hxs, ex, hx⟩ := rp_at (r2.same (newH_but hz b3)) r0 i16
    exact ⟨a, xs, r, x, rfl, rfl, .of (newH_sub _ _ hxs), ex, q H3 x _ ((sb (s1.trans s2)).trans b3) z3 (List.getElem_mem i16) hx⟩
end
end UP

set_option Elab.async false
set_option linter.all false
set_option maxRecDepth 100000
set_option maxHeartbeats 4000000
namespace UP
open PySem PySem.Spec PyProof.Rows L2
def dR (r : Run) : Dat := .tup [.str r.1, .int r.2]
theorem rps_run {H : Hp} : ∀ {xs : List V} {rs : List Run}, Paired (RunV H) xs rs → Paired (Rp H) xs (rs.map dR)
  | _, _, .nil => .nil
  | _, _, .cons h t => by
    obtain ⟨p, rfl, hp⟩ := h
    exact .cons (.tup hp (.cons (.str _) (.cons (.int _) .nil))) (rps_run t)
theorem rp_runs {H : Hp} {a : Addr} {rs : List Run} (h : Runs H a rs) : Rp H (.ref a) (.lst (rs.map dR)) := by
  obtain ⟨xs, hx, hp⟩ := h
  exact .lst hx (rps_run hp)
theorem calms_runs : ∀ (rs : List Run) (l : List Dat), Dat.calms l = true → Dat.calms (rs.map dR ++ l) = true
  | [], _, h => h
  | r :: t, l, h => by
    show (Dat.calm (dR r) && Dat.calms (t.map dR ++ l)) = true
    rw [calms_runs t l h]
    rfl
theorem calms_app : ∀ (a b : List Dat), Dat.calms (a ++ b) = (Dat.calms a && Dat.calms b)
  | [], _ => rfl
  | x :: t, b => by
    show (Dat.calm x && Dat.calms (t ++ b)) = ((Dat.calm x && Dat.calms t) && Dat.calms b)
    rw [calms_app t b, Bool.and_assoc]
theorem three_runs : ∀ (rs : List Run) (z : Str) (n : Int), Dat.three (rs.map dR ++ [.tup [.str z, .int n]]) = false
  | [], _, _ => rfl
  | r :: t, _, _ => rfl
section
variable {P : Program} {w : World} {K : PySem.W.Frag} {mg : Str → Option Value} {base : Heap}
/-! _law_no_sequence: slots 0:spring 1:sequence 2:some -/
abbrev s_law_no_sequence : Stmt := topS 51
theorem sc_law_no_sequence : FnScope ["spring", "sequence", "some"] ["spring", "sequence"] (defScope s_law_no_sequence) := ⟨rfl, rfl, rfl, by decide +kernel, rfl, by decide +kernel, by decide +kernel⟩
def sp_law_no_sequence : Sp := fun vs H Q _ => ∃ (sp a : Addr) (rs : List Run), vs = [.ref sp, .ref a] ∧ Spr H sp ∧ Runs H a rs ∧ rs.length ≤ 400 ∧ ∀ H' v d, But sp H H' → Spr H' sp → d ∈ noSeq (rs.map dR) → Rp H' v d → Q v H'
theorem ok_law_no_sequence (D : Df K mg "_law_no_sequence" s_law_no_sequence) (T : Tx mg) (G_law_draw : Has P w K mg base 1 "_law_draw" ["spring", "many"] sp_law_draw) : Has P w K mg base 2 "_law_no_sequence" ["spring", "sequence"] sp_law_no_sequence := by
  refine has_of D sc_law_no_sequence (fun _ _ _ _ _ _ us hl => match us, hl with | [_, _], _ => rfl) (fun vs H Q E h => ?_) (fun f cdv A outer s₀ H vs Q E hr h => ?_)
  · obtain ⟨_, _, _, rfl, _⟩ := h
    rfl
  · obtain ⟨sp, a, rs, rfl, hz, hR, l4, q⟩ := h
    have hA := rp_runs hR
    have lr : (rs.map dR).length ≤ 400 := by rw [List.length_map]; exact l4
    have cr : Dat.calms (noSeq (rs.map dR)) = true := by
      have c1 := calms_runs rs [.tup [.str "b", .int (-1)]] rfl
      have c2 := three_runs rs "b" (-1)
      have cm : Dat.calm (.lst (rs.map dR ++ [.tup [.str "b", .int (-1)]])) = true := by
        rw [Dat.calm, c2, c1]
        rfl
      unfold noSeq
      rw [calms_app, calms_app, Bool.and_eq_true, Bool.and_eq_true]
      refine ⟨⟨by decide +kernel, ?_⟩, by decide +kernel⟩
      show (Dat.calm (.lst _) && (Dat.calm (.lst _) && Dat.calms _)) = true
      rw [cm]
      decide +kernel
    generalize hX : rs.map dR = X at *
    refine ⟨_, (pss_cons (ps_set (i := 2) sc_law_no_sequence.nd rfl (by first | exact Or.inl rfl | exact Or.inr rfl) (pe_lst (pa_cons pe_non (pa_cons pe_int (pa_cons pe_str (pa_cons pe_dnewK (pa_cons (pe_lst (pa_cons pe_non pa_nil)) (pa_cons (pe_lst (pa_cons (pe_tup (pa_cons pe_str (pa_cons pe_int pa_nil))) pa_nil)) (pa_cons (pe_lst (pa_cons (pe_tup (pa_cons pe_str (pa_cons (pe_op op_add (pe_op op_pow pe_int pe_int) pe_int) pa_nil))) pa_nil)) (pa_cons (pe_lst (pa_cons (pe_tup (pa_cons pe_str (pa_cons pe_bl pa_nil))) pa_nil)) (pa_cons (pe_lst (pa_cons (pe_tup (pa_cons pe_str (pa_cons pe_str pa_nil))) pa_nil)) (pa_cons (pe_lst (pa_cons (pe_tup (pa_cons pe_str (pa_cons pe_int pa_nil))) pa_nil)) pa_nil))))))))))))
    (pss_cons (ps_set (i := 2) sc_law_no_sequence.nd rfl (by first | exact Or.inl rfl | exact Or.inr rfl) (pe_op op_cat (pv 2) (pe_lst (pa_cons (pe_lst (pa_cons (pe_tup (pa_cons pe_str (pa_cons pe_int pa_nil))) pa_nil)) (pa_cons (pe_lst (pa_cons (pe_tup (pa_cons pe_str (pa_cons pe_int pa_nil))) pa_nil)) (pa_cons (pe_lst (pa_cons (pe_tup (pa_cons pe_str (pa_cons pe_int pa_nil))) (pa_cons (pe_tup (pa_cons pe_str (pa_cons pe_int pa_nil))) pa_nil))) (pa_cons (pe_lst (pa_cons (pe_tup (pa_cons pe_str pa_nil)) pa_nil)) (pa_cons (pe_lst (pa_cons (pe_tup (pa_cons pe_str (pa_cons pe_int (pa_cons pe_int pa_nil)))) pa_nil)) (pa_cons (pe_tup (pa_cons pe_str (pa_cons pe_int pa_nil))) (pa_cons pe_bl (pa_cons (pe_lst (pa_cons (pe_tup pa_nil) pa_nil)) pa_nil)))))))))))
    (pss_cons (ps_set (i := 2) sc_law_no_sequence.nd rfl (by first | exact Or.inl rfl | exact Or.inr rfl) (pe_op op_cat (pv 2) (pe_lst (pa_cons (pe_op op_cat (pe_op op_rep (pe_lst (pa_cons (pe_tup (pa_cons pe_str (pa_cons pe_int pa_nil))) (pa_cons (pe_tup (pa_cons pe_str (pa_cons pe_int pa_nil))) pa_nil))) pe_int) (pe_lst (pa_cons (pe_tup (pa_cons pe_str (pa_cons pe_int pa_nil))) pa_nil))) (pa_cons (pe_op op_cat (pv 1) (pe_lst (pa_cons (pe_tup (pa_cons pe_str (pa_cons (pe_un un_neg pe_int) pa_nil))) pa_nil))) (pa_cons (pe_lst (pa_cons (pe_tup (pa_cons pe_int (pa_cons pe_int pa_nil))) pa_nil)) (pa_cons (pe_lst (pa_cons (pe_tup (pa_cons pe_str (pa_cons pe_int pa_nil))) pa_nil)) pa_nil)))))))
    (pss_one (ps_ret (pe_ix ix_list (pe_op op_cat (pv 2) (pe_lst (pa_cons (pe_lst (pa_cons (pe_lst (pa_cons pe_str (pa_cons pe_non pa_nil))) pa_nil)) pa_nil))) (pe_callH G_law_draw (hr.mono (by omega)) (by rfl) (pa_cons (pv 0) (pa_cons pe_int pa_nil))) (fun _ _ => rfl))))))), ?_⟩
    refine lit_set (d := .lst [.non, .int 0, .str "a", .dic, .lst [.non], .lst [.tup [.str "a", .int 0]], .lst [.tup [.str "a", .int ((10 : Int) ^ ((30 : Int).toNat) + 1)]], .lst [.tup [.str "a", .bl true]], .lst [.tup [.str "a", .str "1"]], .lst [.tup [.str "A", .int 1]]]) (lit_lst (lits_cons lit_non (lits_cons lit_int (lits_cons lit_str (lits_cons lit_dic (lits_cons (lit_lst (lits_cons lit_non lits_nil) (Nat.le_of_ble_eq_true rfl)) (lits_cons (lit_lst (lits_cons (lit_tup (lits_cons lit_str (lits_cons lit_int lits_nil)) (Nat.le_of_ble_eq_true rfl)) lits_nil) (Nat.le_of_ble_eq_true rfl)) (lits_cons (lit_lst (lits_cons (lit_tup (lits_cons lit_str (lits_cons (lit_val (v := .int ((10 : Int) ^ ((30 : Int).toNat) + 1)) (fun H Q q => ⟨_, _, rfl, rfl, ⟨by decide, by decide, by decide⟩, _, _, rfl, rfl, q⟩) (fun H => .int _)) lits_nil)) (Nat.le_of_ble_eq_true rfl)) lits_nil) (Nat.le_of_ble_eq_true rfl)) (lits_cons (lit_lst (lits_cons (lit_tup (lits_cons lit_str (lits_cons lit_bl lits_nil)) (Nat.le_of_ble_eq_true rfl)) lits_nil) (Nat.le_of_ble_eq_true rfl)) (lits_cons (lit_lst (lits_cons (lit_tup (lits_cons lit_str (lits_cons lit_str lits_nil)) (Nat.le_of_ble_eq_true rfl)) lits_nil) (Nat.le_of_ble_eq_true rfl)) (lits_cons (lit_lst (lits_cons (lit_tup (lits_cons lit_str (lits_cons lit_int lits_nil)) (Nat.le_of_ble_eq_true rfl)) lits_nil) (Nat.le_of_ble_eq_true rfl)) lits_nil)))))))))) (Nat.le_of_ble_eq_true rfl)) (fun H1 v1 s1 r1 => ?_)
    refine lit_set (lit_cat (lit_var rfl r1) (lit_lst (lits_cons (lit_lst (lits_cons (lit_tup (lits_cons lit_str (lits_cons lit_int lits_nil)) (Nat.le_of_ble_eq_true rfl)) lits_nil) (Nat.le_of_ble_eq_true rfl)) (lits_cons (lit_lst (lits_cons (lit_tup (lits_cons lit_str (lits_cons lit_int lits_nil)) (Nat.le_of_ble_eq_true rfl)) lits_nil) (Nat.le_of_ble_eq_true rfl)) (lits_cons (lit_lst (lits_cons (lit_tup (lits_cons lit_str (lits_cons lit_int lits_nil)) (Nat.le_of_ble_eq_true rfl)) (lits_cons (lit_tup (lits_cons lit_str (lits_cons lit_int lits_nil)) (Nat.le_of_ble_eq_true rfl)) lits_nil)) (Nat.le_of_ble_eq_true rfl)) (lits_cons (lit_lst (lits_cons (lit_tup (lits_cons lit_str lits_nil) (Nat.le_of_ble_eq_true rfl)) lits_nil) (Nat.le_of_ble_eq_true rfl)) (lits_cons (lit_lst (lits_cons (lit_tup (lits_cons lit_str (lits_cons lit_int (lits_cons lit_int lits_nil))) (Nat.le_of_ble_eq_true rfl)) lits_nil) (Nat.le_of_ble_eq_true rfl)) (lits_cons (lit_tup (lits_cons lit_str (lits_cons lit_int lits_nil)) (Nat.le_of_ble_eq_true rfl)) (lits_cons lit_bl (lits_cons (lit_lst (lits_cons (lit_tup lits_nil (Nat.le_of_ble_eq_true rfl)) lits_nil) (Nat.le_of_ble_eq_true rfl)) lits_nil)))))))) (Nat.le_of_ble_eq_true rfl)) (Nat.le_of_ble_eq_true rfl)) (fun H2 v2 s2 r2 => ?_)
    refine lit_set (lit_cat (lit_var rfl r2) (lit_lst (lits_cons (lit_cat (lit_rep (lit_lst (lits_cons (lit_tup (lits_cons lit_str (lits_cons lit_int lits_nil)) (Nat.le_of_ble_eq_true rfl)) (lits_cons (lit_tup (lits_cons lit_str (lits_cons lit_int lits_nil)) (Nat.le_of_ble_eq_true rfl)) lits_nil)) (Nat.le_of_ble_eq_true rfl)) (by decide) (by decide) (Nat.le_of_ble_eq_true rfl)) (lit_lst (lits_cons (lit_tup (lits_cons lit_str (lits_cons lit_int lits_nil)) (Nat.le_of_ble_eq_true rfl)) lits_nil) (Nat.le_of_ble_eq_true rfl)) (Nat.le_of_ble_eq_true rfl)) (lits_cons (lit_cat (lit_var rfl (hA.same (s1.trans s2))) (lit_lst (lits_cons (lit_tup (lits_cons lit_str (lits_cons (lit_val (v := .int (-1)) (fun H Q q => ⟨1, rfl, q⟩) (fun H => .int _)) lits_nil)) (Nat.le_of_ble_eq_true rfl)) lits_nil) (Nat.le_of_ble_eq_true rfl)) (by show X.length + 1 ≤ 1000; omega)) (lits_cons (lit_lst (lits_cons (lit_tup (lits_cons lit_int (lits_cons lit_int lits_nil)) (Nat.le_of_ble_eq_true rfl)) lits_nil) (Nat.le_of_ble_eq_true rfl)) (lits_cons (lit_lst (lits_cons (lit_tup (lits_cons lit_str (lits_cons lit_int lits_nil)) (Nat.le_of_ble_eq_true rfl)) lits_nil) (Nat.le_of_ble_eq_true rfl)) lits_nil)))) (Nat.le_of_ble_eq_true rfl)) (Nat.le_of_ble_eq_true rfl)) (fun H3 v3 s3 r3 => ?_)
    refine lit_retIx (lit_cat (lit_var rfl r3) (lit_lst (lits_cons (lit_lst (lits_cons (lit_lst (lits_cons lit_str (lits_cons lit_non lits_nil)) (Nat.le_of_ble_eq_true rfl)) lits_nil) (Nat.le_of_ble_eq_true rfl)) lits_nil) (Nat.le_of_ble_eq_true rfl)) (Nat.le_of_ble_eq_true rfl)) (fun H4 v4 s4 r4 => ?_)
    have s04 := s1.trans (s2.trans (s3.trans s4))
    refine ⟨_, rfl, sp, 23, rfl, hz.same s04, by decide, by decide, fun H5 r b5 z5 r0 r1' => ?_⟩
    have c4 : (Dat.lst (noSeq X)).calm = true := by
      rw [Dat.calm, cr]
      rfl
    have r5 := Rp.butS (hz.same s04) b5 r4 c4
    have i23 : r.toNat < (noSeq X).length := by
      show r.toNat < 23
      omega
    obtain ⟨p, xs, x, rfl, hxs, ex, hx⟩ := rp_at r5 r0 i23
    exact ⟨p, xs, r, x, rfl, rfl, .of hxs, ex, q H5 x _ ((sb s04).trans b5) z5 (List.getElem_mem i23) hx⟩
end
end UP

set_option Elab.async false
set_option linter.all false
set_option maxRecDepth 100000
set_option maxHeartbeats 4000000
set_option pp.maxSteps 600
namespace UP
open PySem PySem.Spec PyProof.Rows L2
/-- what a call says: its number, what it is given, the word that is due -/
inductive Er : Int → Dat → Dat → Dat → Str → Prop
  | q0 {a b c : Dat} (fa : a.fits) (h : a.seq = false) : Er 0 a b c "InvalidSequence"
  | q1 {a b c : Dat} (fa : a.fits) (h : a.seq = false) : Er 1 a b c "InvalidSequence"
  | q2 {a b c : Dat} (fa : a.fits) (h : a.seq = false) : Er 2 a b c "InvalidSequence"
  | q3 {a b c : Dat} (fa : a.fits) (h : a.seq = false) : Er 3 a b c "InvalidSequence"
  | q6 {a b c : Dat} (fa : a.fits) (h : a.seq = false) : Er 6 a b c "InvalidSequence"
  | q4 {a b c : Dat} (fa : a.fits) (fb : b.fits) (h : a.seq = false ∨ (a.seq = true ∧ b.seq = false)) : Er 4 a b c "InvalidSequence"
  | p2 {a b c : Dat} (fa : a.fits) (h : a.seq = true) (i : b.inI 0 (lenR a.runs - 1) = false) : Er 2 a b c "InvalidPosition"
  | p3 {a b c : Dat} (fa : a.fits) (h : a.seq = true) (i : b.inI 0 (lenR a.runs) = false) : Er 3 a b c "InvalidPosition"
  | m3 {a c : Dat} {s : Int} (fa : a.fits) (h : a.seq = true) (s0 : 0 ≤ s) (s1 : s ≤ lenR a.runs) (i : c.inI 0 (lenR a.runs - s) = false) : Er 3 a (.int s) c "InvalidNumber"
  | l4 {a b c : Dat} (fa : a.fits) (fb : b.fits) (h : a.seq = true) (hb : b.seq = true) (l : LongJ (joinR a.runs b.runs)) : Er 4 a b c "TooLong"
  | i5 {a b c : Dat} (i : BadI a) : Er 5 a b c "InvalidItems"
  | l6 {a b c : Dat} (fa : a.fits) (h : a.seq = true) (l : 400 < lenR a.runs) : Er 6 a b c "TooLong"
  | n0 {a b c : Dat} (h : a.seq = true) : Er 0 a b c "none"
  | n2 {a c : Dat} {m : Int} (h : a.seq = true) (m0 : 0 ≤ m) (m1 : m < lenR a.runs) : Er 2 a (.int m) c "none"
  | n3 {a : Dat} {s l : Int} (h : a.seq = true) (s0 : 0 ≤ s) (l0 : 0 ≤ l) (sl : s + l ≤ lenR a.runs) : Er 3 a (.int s) (.int l) "none"
  | n4 {a b c : Dat} (h : a.seq = true) (hb : b.seq = true) (l : (joinR a.runs b.runs).length ≤ 400) (g : ∀ r ∈ joinR a.runs b.runs, r.2 ≤ 1000000000000000000000000000000) : Er 4 a b c "none"
  | n5 {b c : Dat} {ks : List Str} (l : ks.length ≤ 400) (g : ∀ k ∈ ks, KindOk k) : Er 5 (.lst (ks.map Dat.str)) b c "none"
  | n6 {a b c : Dat} (h : a.seq = true) (l : lenR a.runs ≤ 400) : Er 6 a b c "none"
theorem strs_of {H : Hp} : ∀ {ks : List Str} {xs : List V}, Paired (Rp H) xs (ks.map Dat.str) → xs = ks.map V.str
  | [], _, .nil => rfl
  | k :: t, _, .cons h p => by
    cases h
    rw [strs_of p]
    rfl
theorem cut_head {m : Int} (rs : List Run) (p : ∀ r ∈ rs, 1 ≤ r.2) (m0 : 0 ≤ m) (m1 : m < lenR rs) : ∃ k, (cutR m (m + 1) 0 rs).head?.map (·.1) = some k := by
  have e := len_it rs p
  have h : m.toNat < (itR rs).length := by omega
  exact ⟨_, kind_pos p m0 (List.getElem?_eq_getElem h)⟩
section
variable {P : Program} {w : World} {K : PySem.W.Frag} {mg : Str → Option Value} {base : Heap}
/-! _law_asked: slots 0:ask 1:one 2:other 3:third 4:caught 5:e -/
abbrev s_law_asked : Stmt := topS 54
theorem sc_law_asked : FnScope ["ask", "one", "other", "third", "caught", "e"] ["ask", "one", "other", "third"] (defScope s_law_asked) := ⟨rfl, rfl, rfl, by decide +kernel, rfl, by decide +kernel, by decide +kernel⟩
def sp_law_asked : Sp := fun vs H Q _ => ∃ (k : Int) (va vb vc : V) (a b c : Dat) (due : Str), vs = [.int k, va, vb, vc] ∧ Rp H va a ∧ Rp H vb b ∧ Rp H vc c ∧ Er k a b c due ∧ ∀ H', Same H H' → Q (.str due) H'
theorem ok_law_asked {CA : Str → Addr} (D : Df K mg "_law_asked" s_law_asked) (T : Tx mg) (CM : Cmg mg CA) (FS : ClsF K CA "InvalidSequence") (FP : ClsF K CA "InvalidPosition") (FN : ClsF K CA "InvalidNumber") (FI : ClsF K CA "InvalidItems") (FL : ClsF K CA "TooLong") (G_law_class : Has P w K mg base 1 "_law_class" ["caught"] (sp_law_class K CA))
    (G_total_length : Has P w K mg base 6 "total_length" ["sequence"] sp_total_length) (G_counts_of : Has P w K mg base 6 "counts_of" ["sequence"] sp_counts_of) (G_kind_at : Has P w K mg base 6 "kind_at" ["sequence", "position"] sp_kind_at) (G_part_of : Has P w K mg base 6 "part_of" ["sequence", "start", "length"] sp_part_of)
    (G_joined : Has P w K mg base 6 "joined" ["first", "second"] sp_joined) (G_runs_of : Has P w K mg base 2 "runs_of" ["items"] sp_runs_of) (G_items_of : Has P w K mg base 7 "items_of" ["sequence"] sp_items_of)
    (GX_total_length : HasX P w K mg base 6 "total_length" ["sequence"] (spX_seq (CA "InvalidSequence"))) (GX_counts_of : HasX P w K mg base 6 "counts_of" ["sequence"] (spX_seq (CA "InvalidSequence"))) (GX_kind_at : HasX P w K mg base 6 "kind_at" ["sequence", "position"] (spX_kind_at (CA "InvalidSequence") (CA "InvalidPosition")))
    (GX_part_of : HasX P w K mg base 6 "part_of" ["sequence", "start", "length"] (spX_part_of (CA "InvalidSequence") (CA "InvalidPosition") (CA "InvalidNumber"))) (GX_joined : HasX P w K mg base 6 "joined" ["first", "second"] (spX_joined (CA "InvalidSequence") (CA "TooLong")))
    (GX_runs_of : HasX P w K mg base 2 "runs_of" ["items"] (spX_runs_of (CA "InvalidItems"))) (GX_items_of : HasX P w K mg base 7 "items_of" ["sequence"] (spX_checked_short_runs (CA "InvalidSequence") (CA "TooLong"))) :
    Has P w K mg base 8 "_law_asked" ["ask", "one", "other", "third"] sp_law_asked := by
  refine has_of D sc_law_asked (fun _ _ _ _ _ _ us hl => match us, hl with | [_, _, _, _], _ => rfl) (fun vs H Q E h => ?_) (fun f cdv A outer s₀ H vs Q E hr h => ?_)
  · obtain ⟨_, _, _, _, _, _, _, _, rfl, _⟩ := h
    rfl
  · obtain ⟨k, va, vb, vc, a, b, c, due, rfl, ha, hb', hc, er, q⟩ := h
    have lb : ∀ {H1 : Hp} {x : Addr}, Same H H1 → H1 x = none → ∀ {o H2}, Same (upd H1 x o) H2 → Same H H2 := fun s n _ _ s2 => s.trans ((same_upd n).trans s2)
    have wS : wordOf "InvalidSequence" = "InvalidSequence" := by decide +kernel
    have wP : wordOf "InvalidPosition" = "InvalidPosition" := by decide +kernel
    have wN : wordOf "InvalidNumber" = "InvalidNumber" := by decide +kernel
    have wI : wordOf "InvalidItems" = "InvalidItems" := by decide +kernel
    have wL : wordOf "TooLong" = "TooLong" := by decide +kernel
    refine ⟨_, (pss_cons (ps_set (i := 4) sc_law_asked.nd rfl (by first | exact Or.inl rfl | exact Or.inr rfl) pe_non)
    (pss_cons (ps_try_keep (i := 5) (j := 4) rfl rfl sc_law_asked.nd rfl rfl ⟨rfl, by decide, .inl (CM.all "PairError" (by decide))⟩ rfl (fun W pn xe tk _ => (pss_one (ps_if (pt_cmpR op_eq (pv 0) pe_int (nomark _)) (pss_one (ps_expr (pe_callEX G_total_length GX_total_length tk (hr.mono (by omega)) (hr.mono (by omega)) (by rfl) (pa_cons (pv 1) pa_nil)))) (pss_one (ps_if (pt_cmpR op_eq (pv 0) pe_int (nomark _)) (pss_one (ps_expr (pe_callEX G_counts_of GX_counts_of tk (hr.mono (by omega)) (hr.mono (by omega)) (by rfl) (pa_cons (pv 1) pa_nil)))) (pss_one (ps_if (pt_cmpR op_eq (pv 0) pe_int (nomark _)) (pss_one (ps_expr (pe_callEX G_kind_at GX_kind_at tk (hr.mono (by omega)) (hr.mono (by omega)) (by rfl) (pa_cons (pv 1) (pa_cons (pv 2) pa_nil))))) (pss_one (ps_if (pt_cmpR op_eq (pv 0) pe_int (nomark _)) (pss_one (ps_expr (pe_callEX G_part_of GX_part_of tk (hr.mono (by omega)) (hr.mono (by omega)) (by rfl) (pa_cons (pv 1) (pa_cons (pv 2) (pa_cons (pv 3) pa_nil)))))) (pss_one (ps_if (pt_cmpR op_eq (pv 0) pe_int (nomark _)) (pss_one (ps_expr (pe_callEX G_joined GX_joined tk (hr.mono (by omega)) (hr.mono (by omega)) (by rfl) (pa_cons (pv 1) (pa_cons (pv 2) pa_nil))))) (pss_one (ps_if (pt_cmpR op_eq (pv 0) pe_int (nomark _)) (pss_one (ps_expr (pe_callEX G_runs_of GX_runs_of tk (hr.mono (by omega)) (hr.mono (by omega)) (by rfl) (pa_cons (pv 1) pa_nil)))) (pss_one (ps_expr (pe_callEX G_items_of GX_items_of tk (hr.mono (by omega)) (hr.mono (by omega)) (by rfl) (pa_cons (pv 1) pa_nil))))))))))))))))) (fun a pn => pss_one (ps_set (i := 4) sc_law_asked.nd rfl (by first | exact Or.inl rfl | exact Or.inr rfl) (pv 5))))
    (pss_one (ps_ret (pe_ifExp (pt_cmpR op_isN (pv 4) pe_non (nomark _)) pe_str (pe_callH G_law_class (hr.mono (by omega)) (by rfl) (pa_cons (pv 4) pa_nil))))))), ?_⟩
    cases er with
    | q0 fa h =>
      exact ⟨_, rfl, rfl, _, rfl, iteP rfl ⟨_, rfl, .inr ⟨va, a, rfl, ha, fa, h, fun H1 s1 => ⟨FS.em, fun x na => ⟨_, rfl, rfl, _, rfl, iteN rfl ⟨_, rfl, x, "InvalidSequence", none, rfl, upd_same, dok_none, FS, by decide +kernel, fun H2 s2 => by rw [wS]; exact q _ (lb s1 na s2)⟩⟩⟩⟩⟩⟩
    | q1 fa h =>
      exact ⟨_, rfl, rfl, _, rfl, iteN rfl ⟨_, rfl, rfl, _, rfl, iteP rfl ⟨_, rfl, .inr ⟨va, a, rfl, ha, fa, h, fun H1 s1 => ⟨FS.em, fun x na => ⟨_, rfl, rfl, _, rfl, iteN rfl ⟨_, rfl, x, "InvalidSequence", none, rfl, upd_same, dok_none, FS, by decide +kernel, fun H2 s2 => by rw [wS]; exact q _ (lb s1 na s2)⟩⟩⟩⟩⟩⟩⟩
    | q2 fa h =>
      exact ⟨_, rfl, rfl, _, rfl, iteN rfl ⟨_, rfl, rfl, _, rfl, iteN rfl ⟨_, rfl, rfl, _, rfl, iteP rfl ⟨_, rfl, _, rfl, .inr ⟨va, vb, a, b, rfl, ha, fa, hb', .inl ⟨h, fun H1 s1 => ⟨FS.em, fun x na => ⟨_, rfl, rfl, _, rfl, iteN rfl ⟨_, rfl, x, "InvalidSequence", none, rfl, upd_same, dok_none, FS, by decide +kernel, fun H2 s2 => by rw [wS]; exact q _ (lb s1 na s2)⟩⟩⟩⟩⟩⟩⟩⟩⟩
    | q3 fa h =>
      exact ⟨_, rfl, rfl, _, rfl, iteN rfl ⟨_, rfl, rfl, _, rfl, iteN rfl ⟨_, rfl, rfl, _, rfl, iteN rfl ⟨_, rfl, rfl, _, rfl, iteP rfl ⟨_, rfl, _, rfl, _, rfl, .inr ⟨va, vb, vc, a, b, c, rfl, ha, fa, hb', hc, .inl ⟨h, fun H1 s1 => ⟨FS.em, fun x na => ⟨_, rfl, rfl, _, rfl, iteN rfl ⟨_, rfl, x, "InvalidSequence", none, rfl, upd_same, dok_none, FS, by decide +kernel, fun H2 s2 => by rw [wS]; exact q _ (lb s1 na s2)⟩⟩⟩⟩⟩⟩⟩⟩⟩⟩
    | q6 fa h =>
      exact ⟨_, rfl, rfl, _, rfl, iteN rfl ⟨_, rfl, rfl, _, rfl, iteN rfl ⟨_, rfl, rfl, _, rfl, iteN rfl ⟨_, rfl, rfl, _, rfl, iteN rfl ⟨_, rfl, rfl, _, rfl, iteN rfl ⟨_, rfl, rfl, _, rfl, iteN rfl ⟨_, rfl, .inr ⟨va, a, rfl, ha, fa, .inl ⟨h, fun H1 s1 => ⟨FS.em, fun x na => ⟨_, rfl, rfl, _, rfl, iteN rfl ⟨_, rfl, x, "InvalidSequence", none, rfl, upd_same, dok_none, FS, by decide +kernel, fun H2 s2 => by rw [wS]; exact q _ (lb s1 na s2)⟩⟩⟩⟩⟩⟩⟩⟩⟩⟩⟩⟩
    | q4 fa fb h =>
      exact ⟨_, rfl, rfl, _, rfl, iteN rfl ⟨_, rfl, rfl, _, rfl, iteN rfl ⟨_, rfl, rfl, _, rfl, iteN rfl ⟨_, rfl, rfl, _, rfl, iteN rfl ⟨_, rfl, rfl, _, rfl, iteP rfl ⟨_, rfl, _, rfl, .inr ⟨va, vb, a, b, rfl, ha, fa, hb', fb, .inl ⟨h, fun H1 s1 => ⟨FS.em, fun x na => ⟨_, rfl, rfl, _, rfl, iteN rfl ⟨_, rfl, x, "InvalidSequence", none, rfl, upd_same, dok_none, FS, by decide +kernel, fun H2 s2 => by rw [wS]; exact q _ (lb s1 na s2)⟩⟩⟩⟩⟩⟩⟩⟩⟩⟩⟩
    | p2 fa h i =>
      exact ⟨_, rfl, rfl, _, rfl, iteN rfl ⟨_, rfl, rfl, _, rfl, iteN rfl ⟨_, rfl, rfl, _, rfl, iteP rfl ⟨_, rfl, _, rfl, .inr ⟨va, vb, a, b, rfl, ha, fa, hb', .inr ⟨h, i, fun H1 s1 => ⟨FP.em, fun x na => ⟨_, rfl, rfl, _, rfl, iteN rfl ⟨_, rfl, x, "InvalidPosition", none, rfl, upd_same, dok_none, FP, by decide +kernel, fun H2 s2 => by rw [wP]; exact q _ (lb s1 na s2)⟩⟩⟩⟩⟩⟩⟩⟩⟩
    | p3 fa h i =>
      exact ⟨_, rfl, rfl, _, rfl, iteN rfl ⟨_, rfl, rfl, _, rfl, iteN rfl ⟨_, rfl, rfl, _, rfl, iteN rfl ⟨_, rfl, rfl, _, rfl, iteP rfl ⟨_, rfl, _, rfl, _, rfl, .inr ⟨va, vb, vc, a, b, c, rfl, ha, fa, hb', hc, .inr (.inl ⟨h, i, fun H1 s1 => ⟨FP.em, fun x na => ⟨_, rfl, rfl, _, rfl, iteN rfl ⟨_, rfl, x, "InvalidPosition", none, rfl, upd_same, dok_none, FP, by decide +kernel, fun H2 s2 => by rw [wP]; exact q _ (lb s1 na s2)⟩⟩⟩⟩)⟩⟩⟩⟩⟩⟩
    | m3 fa h s0 s1 i =>
      exact ⟨_, rfl, rfl, _, rfl, iteN rfl ⟨_, rfl, rfl, _, rfl, iteN rfl ⟨_, rfl, rfl, _, rfl, iteN rfl ⟨_, rfl, rfl, _, rfl, iteP rfl ⟨_, rfl, _, rfl, _, rfl, .inr ⟨va, vb, vc, a, _, c, rfl, ha, fa, hb', hc, .inr (.inr ⟨_, h, rfl, s0, s1, i, fun H1 s1 => ⟨FN.em, fun x na => ⟨_, rfl, rfl, _, rfl, iteN rfl ⟨_, rfl, x, "InvalidNumber", none, rfl, upd_same, dok_none, FN, by decide +kernel, fun H2 s2 => by rw [wN]; exact q _ (lb s1 na s2)⟩⟩⟩⟩)⟩⟩⟩⟩⟩⟩
    | l4 fa fb h h2 l =>
      exact ⟨_, rfl, rfl, _, rfl, iteN rfl ⟨_, rfl, rfl, _, rfl, iteN rfl ⟨_, rfl, rfl, _, rfl, iteN rfl ⟨_, rfl, rfl, _, rfl, iteN rfl ⟨_, rfl, rfl, _, rfl, iteP rfl ⟨_, rfl, _, rfl, .inr ⟨va, vb, a, b, rfl, ha, fa, hb', fb, .inr ⟨h, h2, l, fun H1 s1 => ⟨FL.em, fun x na => ⟨_, rfl, rfl, _, rfl, iteN rfl ⟨_, rfl, x, "TooLong", none, rfl, upd_same, dok_none, FL, by decide +kernel, fun H2 s2 => by rw [wL]; exact q _ (lb s1 na s2)⟩⟩⟩⟩⟩⟩⟩⟩⟩⟩⟩
    | i5 i =>
      exact ⟨_, rfl, rfl, _, rfl, iteN rfl ⟨_, rfl, rfl, _, rfl, iteN rfl ⟨_, rfl, rfl, _, rfl, iteN rfl ⟨_, rfl, rfl, _, rfl, iteN rfl ⟨_, rfl, rfl, _, rfl, iteN rfl ⟨_, rfl, rfl, _, rfl, iteP rfl ⟨_, rfl, .inr ⟨va, a, rfl, ha, i, fun H1 s1 => ⟨FI.em, fun x na => ⟨_, rfl, rfl, _, rfl, iteN rfl ⟨_, rfl, x, "InvalidItems", none, rfl, upd_same, dok_none, FI, by decide +kernel, fun H2 s2 => by rw [wI]; exact q _ (lb s1 na s2)⟩⟩⟩⟩⟩⟩⟩⟩⟩⟩⟩
    | l6 fa h l =>
      exact ⟨_, rfl, rfl, _, rfl, iteN rfl ⟨_, rfl, rfl, _, rfl, iteN rfl ⟨_, rfl, rfl, _, rfl, iteN rfl ⟨_, rfl, rfl, _, rfl, iteN rfl ⟨_, rfl, rfl, _, rfl, iteN rfl ⟨_, rfl, rfl, _, rfl, iteN rfl ⟨_, rfl, .inr ⟨va, a, rfl, ha, fa, .inr ⟨h, l, fun H1 s1 => ⟨FL.em, fun x na => ⟨_, rfl, rfl, _, rfl, iteN rfl ⟨_, rfl, x, "TooLong", none, rfl, upd_same, dok_none, FL, by decide +kernel, fun H2 s2 => by rw [wL]; exact q _ (lb s1 na s2)⟩⟩⟩⟩⟩⟩⟩⟩⟩⟩⟩⟩
    | n0 h =>
      obtain ⟨hR, ok⟩ := seq_rp ha h
      exact ⟨_, rfl, rfl, _, rfl, iteP rfl ⟨_, rfl, .inl ⟨va, _, rfl, hR, ok, fun H1 s1 => ⟨_, rfl, rfl, _, rfl, iteP rfl (q _ s1)⟩⟩⟩⟩
    | n2 h m0 m1 =>
      obtain ⟨hR, ok⟩ := seq_rp ha h
      cases hb'
      obtain ⟨kk, hk⟩ := cut_head a.runs (fun r hr => (ok.2.1 r hr).2.1) m0 m1
      exact ⟨_, rfl, rfl, _, rfl, iteN rfl ⟨_, rfl, rfl, _, rfl, iteN rfl ⟨_, rfl, rfl, _, rfl, iteP rfl ⟨_, rfl, _, rfl, .inl ⟨va, _, _, kk, rfl, hR, ok, m0, m1, hk, fun H1 s1 => ⟨_, rfl, rfl, _, rfl, iteP rfl (q _ s1)⟩⟩⟩⟩⟩⟩
    | n3 h s0 l0 sl =>
      obtain ⟨hR, ok⟩ := seq_rp ha h
      cases hb'
      cases hc
      exact ⟨_, rfl, rfl, _, rfl, iteN rfl ⟨_, rfl, rfl, _, rfl, iteN rfl ⟨_, rfl, rfl, _, rfl, iteN rfl ⟨_, rfl, rfl, _, rfl, iteP rfl ⟨_, rfl, _, rfl, _, rfl, .inl ⟨va, _, _, _, rfl, hR, ok, s0, l0, sl, fun H1 p s1 _ _ => ⟨_, rfl, rfl, _, rfl, iteP rfl (q _ s1)⟩⟩⟩⟩⟩⟩⟩
    | n4 h h2 l g =>
      obtain ⟨hR, ok⟩ := seq_rp ha h
      obtain ⟨hR2, ok2⟩ := seq_rp hb' h2
      exact ⟨_, rfl, rfl, _, rfl, iteN rfl ⟨_, rfl, rfl, _, rfl, iteN rfl ⟨_, rfl, rfl, _, rfl, iteN rfl ⟨_, rfl, rfl, _, rfl, iteN rfl ⟨_, rfl, rfl, _, rfl, iteP rfl ⟨_, rfl, _, rfl, .inl ⟨va, vb, _, _, rfl, hR, ok, hR2, ok2, l, g, fun H1 p s1 _ _ => ⟨_, rfl, rfl, _, rfl, iteP rfl (q _ s1)⟩⟩⟩⟩⟩⟩⟩⟩
    | n5 l g =>
      obtain ⟨p0, xs, rfl, hx, hp⟩ := ha.seq rfl
      have ex := strs_of hp
      subst ex
      exact ⟨_, rfl, rfl, _, rfl, iteN rfl ⟨_, rfl, rfl, _, rfl, iteN rfl ⟨_, rfl, rfl, _, rfl, iteN rfl ⟨_, rfl, rfl, _, rfl, iteN rfl ⟨_, rfl, rfl, _, rfl, iteN rfl ⟨_, rfl, rfl, _, rfl, iteP rfl ⟨_, rfl, .inl ⟨p0, _, rfl, hx, l, g, fun H1 p s1 _ _ => ⟨_, rfl, rfl, _, rfl, iteP rfl (q _ s1)⟩⟩⟩⟩⟩⟩⟩⟩⟩
    | n6 h l =>
      obtain ⟨hR, ok⟩ := seq_rp ha h
      exact ⟨_, rfl, rfl, _, rfl, iteN rfl ⟨_, rfl, rfl, _, rfl, iteN rfl ⟨_, rfl, rfl, _, rfl, iteN rfl ⟨_, rfl, rfl, _, rfl, iteN rfl ⟨_, rfl, rfl, _, rfl, iteN rfl ⟨_, rfl, rfl, _, rfl, iteN rfl ⟨_, rfl, .inl ⟨va, _, rfl, hR, ok, l, fun H1 p s1 _ _ => ⟨_, rfl, rfl, _, rfl, iteP rfl (q _ s1)⟩⟩⟩⟩⟩⟩⟩⟩⟩
end
end UP

set_option Elab.async false
set_option linter.all false
set_option maxRecDepth 100000
set_option maxHeartbeats 4000000
namespace UP
open PySem PySem.Spec PyProof.Rows L2
/-! ### what the menus hold -/
def Dat.fitB : Dat → Bool
  | .str z => decide (z.length ≤ 4000)
  | _ => true
def Dat.fit2B (d : Dat) : Bool := match d.two with
  | some (x, _) => x.fitB
  | none => true
def Dat.fitsB (d : Dat) : Bool := match d.parts with
  | some l => decide (l.length ≤ 100000) && l.all Dat.fit2B
  | none => true
theorem fitB_ok {d : Dat} (h : d.fitB = true) : d.fit := by
  cases d with
  | str z =>
    have h : decide (z.length ≤ 4000) = true := h
    show z.length ≤ 4000
    exact of_decide_eq_true h
  | _ => exact trivial
theorem fit2B_ok {d : Dat} (h : d.fit2B = true) : d.fit2 := by
  intro x y e
  unfold Dat.fit2B at h
  rw [e] at h
  exact fitB_ok h
theorem fitsB_ok {d : Dat} (h : d.fitsB = true) : d.fits := by
  intro l e
  unfold Dat.fitsB at h
  rw [e] at h
  have h : (decide (l.length ≤ 100000) && l.all Dat.fit2B) = true := h
  rw [Bool.and_eq_true] at h
  exact ⟨of_decide_eq_true h.1, fun x hx => fit2B_ok (List.all_eq_true.mp h.2 x hx)⟩
theorem noSeq_mem {X : List Dat} {d : Dat} (h : d ∈ noSeq X) : d ∈ noSeq [] ∨ d = .lst (X ++ [.tup [.str "b", .int (-1)]]) := by
  unfold noSeq at h ⊢
  rcases List.mem_append.mp h with h | h
  · rcases List.mem_append.mp h with h | h
    · exact .inl (List.mem_append.mpr (.inl (List.mem_append.mpr (.inl h))))
    · rcases List.mem_cons.mp h with e | h
      · exact .inl (List.mem_append.mpr (.inl (List.mem_append.mpr (.inr (List.mem_cons.mpr (.inl e))))))
      · rcases List.mem_cons.mp h with e | h
        · exact .inr e
        · exact .inl (List.mem_append.mpr (.inl (List.mem_append.mpr (.inr (List.mem_cons_of_mem _ (List.mem_cons_of_mem _ h))))))
  · exact .inl (List.mem_append.mpr (.inr h))
theorem noSeq_nil : ∀ d ∈ noSeq [], d.seq = false ∧ d.fitsB = true := by decide +kernel
theorem noState_fit : ∀ d ∈ noState, d.state = false ∧ d.fit2B = true := by decide +kernel
theorem noSeq_bad {rs : List Run} (k : ∀ r ∈ rs, KindOk r.1) (l : rs.length ≤ 400) {d : Dat} (h : d ∈ noSeq (rs.map dR)) : d.seq = false ∧ d.fits := by
  rcases noSeq_mem h with h | e
  · exact ⟨(noSeq_nil d h).1, fitsB_ok (noSeq_nil d h).2⟩
  · subst e
    refine ⟨?_, fitsB_ok ?_⟩
    · show (decide _ && ((rs.map dR ++ [Dat.tup [.str "b", .int (-1)]]).all Dat.run && _)) = false
      rw [List.all_append, show ([Dat.tup [.str "b", .int (-1)]] : List Dat).all Dat.run = false by decide +kernel, Bool.and_false, Bool.false_and, Bool.and_false]
    · show (decide ((rs.map dR ++ [Dat.tup [.str "b", .int (-1)]]).length ≤ 100000) && (rs.map dR ++ [Dat.tup [.str "b", .int (-1)]]).all Dat.fit2B) = true
      rw [Bool.and_eq_true]
      refine ⟨decide_eq_true (by rw [List.length_append, List.length_map]; show rs.length + 1 ≤ _; omega), ?_⟩
      rw [List.all_append, Bool.and_eq_true]
      refine ⟨List.all_eq_true.mpr fun x hx => ?_, by decide +kernel⟩
      obtain ⟨r, hr, rfl⟩ := List.mem_map.mp hx
      show decide (r.1.length ≤ 4000) = true
      have := (k r hr).2.1
      exact decide_eq_true (by omega)
/-! ### the size of a repr -/
structure Nis (w n : Nat) (d : PyData) : Prop where
  dep : d.depth ≤ n
  sho : d.showable = true
  lea : d.leavesShort 100 = true
  wei : d.weight ≤ w
def nisB (w n : Nat) (d : PyData) : Bool := decide (d.depth ≤ n) && (d.showable && (d.leavesShort 100 && decide (d.weight ≤ w)))
theorem nis_of {w n : Nat} {d : PyData} (h : nisB w n d = true) : Nis w n d := by
  unfold nisB at h
  rw [Bool.and_eq_true, Bool.and_eq_true, Bool.and_eq_true] at h
  exact ⟨of_decide_eq_true h.1, h.2.1, h.2.2.1, of_decide_eq_true h.2.2.2⟩
theorem Nis.fits {w n : Nat} {d : PyData} (h : Nis w n d) (hw : w ≤ 150000) (hn : n ≤ 64) : d.showable = true ∧ d.depth ≤ 64 ∧ d.shown.length ≤ sizeLine := by
  refine ⟨h.sho, Nat.le_trans h.dep hn, ?_⟩
  have h1 := PyData.shown_le 100 (by decide) d h.lea
  have h2 := h.wei
  have h3 : d.shown.length ≤ 16000000 := by omega
  exact Nat.le_trans h3 (by decide)
theorem Nis.mono {w w' n n' : Nat} {d : PyData} (h : Nis w n d) (h1 : w ≤ w') (h2 : n ≤ n') : Nis w' n' d := ⟨Nat.le_trans h.dep h2, h.sho, h.lea, Nat.le_trans h.wei h1⟩
theorem nis_state : ∀ d ∈ noState, nisB 20000 5 d.py = true := by decide +kernel
theorem nis_seq : ∀ d ∈ noSeq [], nisB 20000 5 d.py = true := by decide +kernel
end UP

set_option Elab.async false
set_option linter.all false
set_option maxRecDepth 100000
set_option maxHeartbeats 4000000
namespace UP
open PySem PySem.Spec PyProof.Rows L2
theorem nis_non : Nis 0 0 .none := ⟨Nat.le_refl _, rfl, rfl, Nat.le_refl _⟩
theorem nis_str {s : Str} (h : KindOk s) : Nis 8 0 (.str s) := by
  refine ⟨Nat.le_refl _, rfl, ?_, h.2.1⟩
  rw [PyData.leavesShort, List.all_eq_true]
  intro c hc
  have := h.2.2 c hc
  exact decide_eq_true (by omega)
theorem nis_int {i : Int} (h : i.natAbs < 10 ^ 60) : Nis 201 0 (.int i) := by
  have h2 : i.natAbs < 2 ^ 200 := Nat.lt_of_lt_of_le h (by decide)
  have h3 : i.natAbs.log2 < 200 := by
    by_cases z : i.natAbs = 0
    · rw [z]
      decide
    · exact (Nat.log2_lt z).mpr h2
  refine ⟨Nat.le_refl _, ?_, ?_, ?_⟩
  · rw [PyData.showable]
    exact decide_eq_true (by omega)
  · rw [PyData.leavesShort]
    refine decide_eq_true ?_
    have e := int_text_length_le10 (k := 60) (by decide) h
    show (Str.ofString (toString i)).length ≤ 100
    rw [PySem.ofString_length]
    omega
  · rw [PyData.weight]
    split <;> omega
theorem nis_items {w n : Nat} : ∀ {ds : List PyData}, (∀ d ∈ ds, Nis w n d) → PyData.depthAll ds ≤ n ∧ PyData.showableAll ds = true ∧ PyData.leavesShortAll 100 ds = true ∧ PyData.weightAll ds ≤ (w + 1) * ds.length
  | [], _ => ⟨Nat.zero_le _, rfl, rfl, Nat.zero_le _⟩
  | d :: t, h => by
    have h1 := h d (List.mem_cons_self ..)
    obtain ⟨a, b, c, e⟩ := nis_items (ds := t) fun x hx => h x (List.mem_cons_of_mem _ hx)
    refine ⟨?_, ?_, ?_, ?_⟩
    · rw [PyData.depthAll]
      exact Nat.max_le.mpr ⟨h1.dep, a⟩
    · rw [PyData.showableAll, h1.sho, b]
      rfl
    · rw [PyData.leavesShortAll, h1.lea, c]
      rfl
    · rw [PyData.weightAll, List.length_cons, Nat.mul_add]
      have := h1.wei
      omega
theorem nis_list {w n : Nat} {ds : List PyData} (h : ∀ d ∈ ds, Nis w n d) : Nis ((w + 1) * ds.length) (n + 1) (.list ds) := by
  obtain ⟨b, c, e, f⟩ := nis_items h
  exact ⟨by rw [PyData.depth]; omega, by rw [PyData.showable]; exact c, by rw [PyData.leavesShort]; exact e, by rw [PyData.weight]; exact f⟩
theorem nis_tup {w n : Nat} {ds : List PyData} (h : ∀ d ∈ ds, Nis w n d) : Nis ((w + 1) * ds.length) (n + 1) (.tuple ds) := by
  obtain ⟨b, c, e, f⟩ := nis_items h
  exact ⟨by rw [PyData.depth]; omega, by rw [PyData.showable]; exact c, by rw [PyData.leavesShort]; exact e, by rw [PyData.weight]; exact f⟩
theorem nis_run {r : Run} (k : KindOk r.1) (c : r.2.natAbs < 10 ^ 60) : Nis 404 1 (dR r).py := by
  have := nis_tup (w := 201) (n := 0) (ds := [.str r.1, .int r.2]) fun d hd => by
    rcases List.mem_cons.mp hd with e | e
    · rw [e]
      exact (nis_str k).mono (by decide) (Nat.le_refl _)
    · rw [List.mem_singleton.mp e]
      exact nis_int c
  exact this
theorem pys_map : ∀ (l : List Dat), Dat.pys l = l.map Dat.py
  | [] => rfl
  | x :: t => congrArg (x.py :: ·) (pys_map t)
theorem nis_lst {w n : Nat} {l : List Dat} (h : ∀ d ∈ l, Nis w n d.py) : Nis ((w + 1) * l.length) (n + 1) (Dat.lst l).py := by
  have := nis_list (w := w) (n := n) (ds := Dat.pys l) fun d hd => by
    rw [pys_map] at hd
    obtain ⟨x, hx, rfl⟩ := List.mem_map.mp hd
    exact h x hx
  rw [pys_map, List.length_map, ← pys_map] at this
  exact this
theorem nis_runs {rs : List Run} (k : ∀ r ∈ rs, KindOk r.1 ∧ r.2.natAbs < 10 ^ 60) (l : rs.length ≤ 40) : Nis 20000 5 (Dat.lst (rs.map dR)).py := by
  have := nis_lst (w := 404) (n := 1) (l := rs.map dR) fun d hd => by
    obtain ⟨r, hr, rfl⟩ := List.mem_map.mp hd
    exact nis_run (k r hr).1 (k r hr).2
  rw [List.length_map] at this
  exact this.mono (by omega) (by decide)
theorem nis_no {rs : List Run} (k : ∀ r ∈ rs, KindOk r.1 ∧ r.2.natAbs < 10 ^ 60) (l : rs.length ≤ 40) {d : Dat} (h : d ∈ noSeq (rs.map dR)) : Nis 20000 5 d.py := by
  rcases noSeq_mem h with h | e
  · exact nis_of (nis_seq d h)
  · subst e
    have := nis_lst (w := 404) (n := 1) (l := rs.map dR ++ [.tup [.str "b", .int (-1)]]) fun d hd => by
      rcases List.mem_append.mp hd with z | z
      · obtain ⟨r, hr, rfl⟩ := List.mem_map.mp z
        exact nis_run (k r hr).1 (k r hr).2
      · rw [List.mem_singleton.mp z]
        exact nis_run (r := ("b", -1)) (by decide +kernel) (by decide)
    rw [List.length_append, List.length_map] at this
    exact this.mono (by show 405 * (rs.length + 1) ≤ _; omega) (by decide)
def stD : Option Run → Dat
  | none => .non
  | some r => dR r
theorem rp_st {H : Hp} {v : V} {st : Option Run} (h : StV H v st) : Rp H v (stD st) := by
  cases st with
  | none =>
    cases h
    exact .non
  | some r =>
    obtain ⟨t, rfl, ht⟩ := h
    exact .tup ht (.cons (.str _) (.cons (.int _) .nil))
theorem nis_st {st : Option Run} (k : ∀ r, st = some r → KindOk r.1 ∧ r.2.natAbs < 10 ^ 60) : Nis 20000 5 (stD st).py := by
  cases st with
  | none => exact nis_non.mono (by decide) (by decide)
  | some r => exact (nis_run (k r rfl).1 (k r rfl).2).mono (by decide) (by decide)
theorem kindB_ok {z : Str} (h : KindOk z) : kindB z = true := by
  unfold kindB
  rw [Bool.and_eq_true]
  exact ⟨decide_eq_true ⟨by have := h.1; omega, by have := h.2.1; omega⟩, List.all_eq_true.mpr fun c hc => decide_eq_true (h.2.2 c hc)⟩
theorem st_good {st : Option Run} (h : StOk st) : (stD st).state = true ∧ (stD st).fit2B = true := by
  cases st with
  | none => exact ⟨rfl, rfl⟩
  | some r =>
    obtain ⟨k, c⟩ := h r rfl
    refine ⟨?_, ?_⟩
    · show (kindB r.1 && decide (1 ≤ r.2)) = true
      rw [kindB_ok k, decide_eq_true c]
      rfl
    · show decide (r.1.length ≤ 4000) = true
      have := k.2.1
      exact decide_eq_true (by omega)
theorem rr_dR (r : Run) : (dR r).rr = r := rfl
theorem runs_dR (rs : List Run) : (Dat.lst (rs.map dR)).runs = rs := by
  show (rs.map dR).map Dat.rr = rs
  rw [List.map_map]
  exact List.map_id _
theorem seq_good {rs : List Run} (ok : SeqOk rs) : (Dat.lst (rs.map dR)).seq = true ∧ (Dat.lst (rs.map dR)).fits := by
  refine ⟨?_, fun l e => ?_⟩
  · show (decide (((rs.map dR).length : Int) ≤ 400) && ((rs.map dR).all Dat.run && ((List.range ((rs.map dR).length - 1)).map (stepB (rs.map dR))).all id)) = true
    rw [Bool.and_eq_true, Bool.and_eq_true]
    refine ⟨decide_eq_true (by rw [List.length_map]; have := ok.1; omega), List.all_eq_true.mpr fun x hx => ?_, List.all_eq_true.mpr fun x hx => ?_⟩
    · obtain ⟨r, hr, rfl⟩ := List.mem_map.mp hx
      have o := ok.2.1 r hr
      show (kindB r.1 && decide (1 ≤ r.2 ∧ r.2 ≤ 1000000000000000000000000000000)) = true
      rw [kindB_ok o.1, decide_eq_true o.2]
      rfl
    · obtain ⟨i, hi, rfl⟩ := List.mem_map.mp hx
      have hi := List.mem_range.mp hi
      rw [List.length_map] at hi
      have g : ∀ j : Nat, j < rs.length → ∃ r, rs[j]? = some r ∧ keyAt (rs.map dR) j = r.1 := fun j hj => by
        refine ⟨rs[j], List.getElem?_eq_getElem hj, ?_⟩
        unfold keyAt
        rw [List.getElem?_map, List.getElem?_eq_getElem hj]
        rfl
      obtain ⟨r1, e1, k1⟩ := g i (by omega)
      obtain ⟨r2, e2, k2⟩ := g (i + 1) (by omega)
      show (!decide (V.str (keyAt (rs.map dR) i) = V.str (keyAt (rs.map dR) (i + 1)))) = true
      rw [k1, k2, decide_eq_false (fun z => ok.2.2 i r1 r2 e1 e2 (V.str.inj z))]
      rfl
  · have e : rs.map dR = l := Option.some.inj e
    subst e
    refine ⟨by rw [List.length_map]; have := ok.1; omega, fun x hx => ?_⟩
    obtain ⟨r, hr, rfl⟩ := List.mem_map.mp hx
    refine fit2B_ok ?_
    show decide (r.1.length ≤ 4000) = true
    have := (ok.2.1 r hr).1.2.1
    exact decide_eq_true (by omega)
end UP

set_option Elab.async false
set_option linter.all false
set_option maxRecDepth 100000
set_option maxHeartbeats 40000000
set_option pp.maxSteps 700
namespace UP
open PySem PySem.Spec PyProof.Rows L2
theorem q30 : (10 : Int) ^ ((30 : Int).toNat) = 1000000000000000000000000000000 := by decide +kernel
theorem q39 : (10 : Int) ^ ((39 : Int).toNat) = 1000000000000000000000000000000000000000 := by decide +kernel
theorem set_go {rest : TS} {D : Ends} {σ σ' : L2.St} {H : Hp} (e : σ = σ') (h : rest D σ' H) : rest D σ H := by
  rw [e]
  exact h
theorem nx_go {f bk ct : L2.St → Hp → Prop} {rt : V → Hp → Prop} {σ : L2.St} {H : Hp} (h : f σ H) : ({ nx := f, rt := rt, bk := bk, ct := ct } : Ends).nx σ H := h
theorem gset_go {i : Nat} {v : V} {σ σ' : L2.St} {H : Hp} {k : L2.St → Hp → Prop} (e : σ.set i (some v) = σ') (h : k σ' H) : gName i v σ H k := by
  subst e
  exact h
theorem calm_nil : ∀ d ∈ noSeq [], d.calm = true := by decide +kernel
theorem calm_seq (rs : List Run) : (Dat.lst (rs.map dR)).calm = true := by
  have h := calms_runs rs [] rfl
  rw [List.append_nil] at h
  rw [Dat.calm, h]
  cases rs <;> rfl
theorem calm_no {rs : List Run} {d : Dat} (h : d ∈ noSeq (rs.map dR)) : d.calm = true := by
  rcases noSeq_mem h with h | e
  · exact calm_nil d h
  · rw [e, Dat.calm, three_runs, calms_runs rs _ rfl]
    rfl
theorem inI_no {k lo hi : Int} (h : ¬ (lo ≤ k ∧ k ≤ hi)) : (Dat.int k).inI lo hi = false := by
  show decide (lo ≤ k ∧ k ≤ hi) = false
  exact decide_eq_false h
def oddR (n : Int) : List Dat := [.int (-1), .int (n + 1), .int ((10 : Int) ^ ((39 : Int).toNat)), .non, .bl true, .str "0", .lst [.int 0], .int (-((10 : Int) ^ ((30 : Int).toNat))), .bl false]
def BadV (d : Dat) (m : Int) : Prop := d.calm = true ∧ (∀ k, k ≤ m → d.inI 0 k = false) ∧ Nis 20000 5 d.py
theorem odd_bad {n : Int} (h0 : 0 ≤ n) (h1 : n ≤ 10000000000000000000000000000000) : ∀ d ∈ oddR n, BadV d n := by
  intro d hd
  unfold oddR at hd
  rw [q39, q30] at hd
  simp only [List.mem_cons, List.not_mem_nil, or_false] at hd
  rcases hd with e | e | e | e | e | e | e | e | e <;> subst e
  · exact ⟨rfl, fun k hk => inI_no (by omega), nis_of (by decide +kernel)⟩
  · exact ⟨rfl, fun k hk => inI_no (by omega), (nis_int (by omega)).mono (by decide) (by decide)⟩
  · exact ⟨rfl, fun k hk => inI_no (by omega), nis_of (by decide +kernel)⟩
  · exact ⟨rfl, fun k hk => rfl, nis_of (by decide +kernel)⟩
  · exact ⟨rfl, fun k hk => rfl, nis_of (by decide +kernel)⟩
  · exact ⟨rfl, fun k hk => rfl, nis_of (by decide +kernel)⟩
  · exact ⟨rfl, fun k hk => rfl, nis_of (by decide +kernel)⟩
  · exact ⟨rfl, fun k hk => inI_no (by omega), nis_of (by decide +kernel)⟩
  · exact ⟨rfl, fun k hk => rfl, nis_of (by decide +kernel)⟩
def wrongR : List Dat := [.int (-1), .non, .bl true, .str "1", .tup [.int 1], .int ((10 : Int) ^ ((39 : Int).toNat))]
theorem wrong_bad : ∀ d ∈ wrongR, BadV d 10000000000000000000000000000000 := by
  intro d hd
  unfold wrongR at hd
  rw [q39] at hd
  simp only [List.mem_cons, List.not_mem_nil, or_false] at hd
  rcases hd with e | e | e | e | e | e <;> subst e
  · exact ⟨rfl, fun k hk => inI_no (by omega), nis_of (by decide +kernel)⟩
  · exact ⟨rfl, fun k hk => rfl, nis_of (by decide +kernel)⟩
  · exact ⟨rfl, fun k hk => rfl, nis_of (by decide +kernel)⟩
  · exact ⟨rfl, fun k hk => rfl, nis_of (by decide +kernel)⟩
  · exact ⟨rfl, fun k hk => rfl, nis_of (by decide +kernel)⟩
  · exact ⟨rfl, fun k hk => inI_no (by omega), nis_of (by decide +kernel)⟩
def itemsR : List Dat := [.non, .int 0, .str "ab", .dic, .lst [.str "a", .non], .lst [.str "A"], .lst [.str ""], .lst (List.replicate (401 : Int).toNat [Dat.str "a"]).flatten, .lst [.str "abcdefghi"], .lst [.lst [.str "a"]], .lst [.str "a", .int 1], .bl true]
def badIB (d : Dat) : Bool := !(d.listed 400) || (match d.parts with
  | some l => l.all Dat.fitB && !(l.all Dat.kind)
  | none => false)
theorem badIB_ok {d : Dat} (h : badIB d = true) : BadI d := by
  unfold badIB at h
  rcases Bool.or_eq_true_iff.mp h with h | h
  · exact .inl (by simpa using h)
  · cases hl : d.listed 400 with
    | false => exact .inl hl
    | true =>
      cases hp : d.parts with
      | none => rw [hp] at h; cases h
      | some l =>
        rw [hp] at h
        have h : (l.all Dat.fitB && !(l.all Dat.kind)) = true := h
        rw [Bool.and_eq_true] at h
        exact .inr ⟨l, hp, hl, fun x hx => fitB_ok (List.all_eq_true.mp h.1 x hx), by simpa using h.2⟩
theorem items_all : ∀ d ∈ itemsR, d.calm = true ∧ badIB d = true ∧ nisB 20000 5 d.py = true := by decide +kernel
theorem calm_items : (Dat.lst itemsR).calm = true := by decide +kernel
def aaD : List Dat := (List.replicate (400 : Int).toNat [Dat.str "a"]).flatten
theorem flat_rep {α : Type} (x : α) : ∀ n : Nat, (List.replicate n [x]).flatten = List.replicate n x
  | 0 => rfl
  | n + 1 => by
    rw [List.replicate_succ, List.flatten_cons, flat_rep x n, List.replicate_succ]
    rfl
theorem aaD_eq : aaD = (List.replicate 400 ("a" : Str)).map Dat.str := by
  unfold aaD
  rw [flat_rep, List.map_replicate]
  rfl
theorem aaD_all : (Dat.lst aaD).calm = true ∧ nisB 20000 5 (Dat.lst aaD).py = true := by decide +kernel
theorem er_aa {b c : Dat} : Er 5 (.lst aaD) b c "none" := by
  rw [aaD_eq]
  refine .n5 (by rw [List.length_replicate]; exact Nat.le_refl _) fun k hk => ?_
  rw [(List.mem_replicate.mp hk).2]
  decide +kernel
/-- a row of the law -/
def RowOk (row : Dat) : Prop := ∃ (k : Int) (a b c : Dat) (due : Str), row = .tup [.int k, a, b, c, .str due] ∧ Er k a b c due ∧ row.calm = true ∧ Nis 130000 6 row.py
theorem nis_tupD {w n : Nat} {l : List Dat} (h : ∀ d ∈ l, Nis w n d.py) : Nis ((w + 1) * l.length) (n + 1) (Dat.tup l).py := by
  have := nis_tup (w := w) (n := n) (ds := Dat.pys l) fun d hd => by
    rw [pys_map] at hd
    obtain ⟨x, hx, rfl⟩ := List.mem_map.mp hd
    exact h x hx
  rw [pys_map, List.length_map, ← pys_map] at this
  exact this
theorem row_ok {k : Int} {a b c : Dat} {due : Str} (e : Er k a b c due) (hk : k.natAbs < 10 ^ 60) (ca : a.calm = true) (cb : b.calm = true) (cc : c.calm = true) (na : Nis 20000 5 a.py) (nb : Nis 20000 5 b.py) (nc : Nis 20000 5 c.py) (nd : nisB 20000 5 (Dat.str due).py = true) : RowOk (.tup [.int k, a, b, c, .str due]) := by
  refine ⟨k, a, b, c, due, rfl, e, ?_, ?_⟩
  · show (true && (a.calm && (b.calm && (c.calm && (true && true))))) = true
    rw [ca, cb, cc]
    rfl
  · refine (nis_tupD (w := 20000) (n := 5) fun d hd => ?_).mono (Nat.le_of_ble_eq_true rfl) (by decide)
    simp only [List.mem_cons, List.not_mem_nil, or_false] at hd
    rcases hd with e | e | e | e | e
    · rw [e]; exact (nis_int hk).mono (by decide) (by decide)
    · rw [e]; exact na
    · rw [e]; exact nb
    · rw [e]; exact nc
    · rw [e]; exact nis_of nd
abbrev Rows (l : List Dat) : Prop := ∀ x ∈ l, RowOk x
theorem rows_nil : Rows [] := fun _ h => by cases h
theorem rows_cons {x : Dat} {l : List Dat} (h : RowOk x) (t : Rows l) : Rows (x :: l) := fun y hy => by
  rcases List.mem_cons.mp hy with e | e
  · rw [e]; exact h
  · exact t y e
theorem rows_app {a b : List Dat} (h : Rows a) (t : Rows b) : Rows (a ++ b) := fun y hy => by
  rcases List.mem_append.mp hy with e | e
  · exact h y e
  · exact t y e
theorem calms_rows : ∀ {l : List Dat}, Rows l → Dat.calms l = true
  | [], _ => rfl
  | x :: t, h => by
    show (x.calm && Dat.calms t) = true
    obtain ⟨_, _, _, _, _, _, _, cx, _⟩ := h x (List.mem_cons_self ..)
    rw [cx, calms_rows fun y hy => h y (List.mem_cons_of_mem _ hy)]
    rfl
theorem calm_rows {l : List Dat} (h : Rows l) : (Dat.lst l).calm = true := by
  rw [Dat.calm, calms_rows h, Bool.and_true]
  match l, h with
  | [], _ => rfl
  | x :: t, h =>
    obtain ⟨_, _, _, _, _, rfl, _⟩ := h x (List.mem_cons_self ..)
    rfl
/-- what the variables hold -/
def FV (H : Hp) (l : List (V × Dat)) : Prop := ∀ x ∈ l, Rp H x.1 x.2 ∧ x.2.calm = true
theorem FV.same {H H' : Hp} {l : List (V × Dat)} (h : FV H l) (s : Same H H') : FV H' l := fun x hx => ⟨(h x hx).1.same s, (h x hx).2⟩
theorem FV.butS {sp : Addr} {H H' : Hp} {l : List (V × Dat)} (h : FV H l) (z : Spr H sp) (b : But sp H H') : FV H' l := fun x hx => ⟨Rp.butS z b (h x hx).1 (h x hx).2, (h x hx).2⟩
theorem FV.cons {H : Hp} {l : List (V × Dat)} {v : V} {d : Dat} (r : Rp H v d) (c : d.calm = true) (h : FV H l) : FV H ((v, d) :: l) := fun x hx => by
  rcases List.mem_cons.mp hx with e | e
  · rw [e]; exact ⟨r, c⟩
  · exact h x e
theorem FV.nil {H : Hp} : FV H [] := fun _ h => by cases h
theorem FV.at {H : Hp} {l : List (V × Dat)} (h : FV H l) {i : Nat} {v : V} {d : Dat} (e : l[i]? = some (v, d)) : Rp H v d := (h (v, d) (List.mem_of_getElem? e)).1
theorem lit_setIx {K : PySem.W.Frag} {t u : TE} {ds : List Dat} {i : Nat} {D : Ends} {rest : TS} {σ : L2.St} {H : Hp} (h : Lit σ H t (.lst ds)) (q : ∀ H' v, Same H H' → Rp H' v (.lst ds) → u σ H' (fun y H2 => rIxL K v y H2 (fun x H3 => rest D (σ.set i (some x)) H3))) : tSeq (tAsg (tOp (rIxL K) t u) (gName i)) rest D σ H := h H _ (Same.refl _) q
theorem lit_ret {t : TE} {d : Dat} {D : Ends} {σ : L2.St} {H : Hp} (h : Lit σ H t d) (q : ∀ H' v, Same H H' → Rp H' v d → D.rt v H') : tRet t D σ H := h H _ (Same.refl _) q
theorem lit_repI {σ : L2.St} {H0 : Hp} {t u : TE} {a X : List Dat} {k : Int} (h1 : Lit σ H0 t (.lst a)) (hu : ∀ H (Q : VK), Same H0 H → Q (.int k) H → u σ H Q) (k0 : 0 ≤ k) (k1 : k ≤ 1000) (l : a.length * k.toNat ≤ 1000) (e : (List.replicate k.toNat a).flatten = X) : Lit σ H0 (tOp rRep t u) (.lst X) := fun H Q s q => h1 H _ s fun H1 v s1 r1 => by
  subst e
  cases r1 with
  | lst e1 p1 =>
    refine hu H1 _ (s.trans s1) ⟨_, k, _, rfl, rfl, e1, by omega, by omega, ?_, fun p np => q _ _ (s1.trans (same_upd np)) (.lst upd_same (rps_same (same_upd np) (rep_pair p1 _)))⟩
    rw [Paired.len p1]
    exact smallE (by omega)
theorem upd3 {H : Hp} {L t : Addr} {a b c : HO} (n : t ≠ L) : upd (upd (upd H L a) t b) L c = upd (upd H t b) L c := by
  funext x
  by_cases h : x = L
  · rw [h, upd_same, upd_same]
  · rw [upd_ne h, upd_ne h]
    by_cases h2 : x = t
    · rw [h2, upd_same, upd_same]
    · rw [upd_ne h2, upd_ne h2, upd_ne h]
/-- the last list is new -/
theorem lit_catN {σ : L2.St} {H0 : Hp} {t u : TE} {a b : List Dat} {i : Nat} {D : Ends} {rest : TS} (h1 : Lit σ H0 t (.lst a)) (h2 : Lit σ H0 u (.lst b)) (l : a.length + b.length ≤ 1000) (q : ∀ H1 p xs, Same H0 H1 → H1 p = none → Paired (Rp H1) xs (a ++ b) → rest D (σ.set i (some (.ref p))) (upd H1 p (.lst xs))) : tSeq (tAsg (tOp rCat t u) (gName i)) rest D σ H0 := h1 H0 _ (Same.refl _) fun H1 v s1 r1 => h2 H1 _ s1 fun H2 w s2 r2 => by
  cases r1.same s2 with
  | lst e1 p1 =>
    cases r2 with
    | lst e2 p2 =>
      refine ⟨_, _, _, _, rfl, rfl, e1, e2, ?_, fun p np => q _ _ _ (s1.trans s2) np (Paired.app p1 p2)⟩
      rw [Paired.len p1, Paired.len p2]
      exact smallE (by omega)
theorem delH_upd_new {H : Hp} {L t : Addr} {xs ys : List V} {o : HO} (hL : H L = some (.lst xs)) (nt : H t = none) : Same (delH H L) (delH (upd (upd H t o) L (.lst ys)) L) := fun b u e => by
  by_cases h : b = L
  · rw [h, delH_same] at e
    cases e
  · rw [delH_ne h] at e ⊢
    rw [upd_ne h, upd_ne (ne_of_none e nt)]
    exact e
end UP

set_option Elab.async false
set_option linter.all false
set_option maxRecDepth 100000
set_option maxHeartbeats 40000000
set_option pp.maxSteps 700
namespace UP
open PySem PySem.Spec PyProof.Rows L2
section
variable {P : Program} {w : World} {K : PySem.W.Frag} {mg : Str → Option Value} {base : Heap}
/-! _law_rows: slots 0:spring 1:sequence 2:length 3:odd 4:wrong 5:start 6:rows 7:items 8:bad 9:worse 10:ask 11:kind 12:count -/
abbrev s_law_rows : Stmt := topS 55
theorem sc_law_rows : FnScope ["spring", "sequence", "length", "odd", "wrong", "start", "rows", "items", "bad", "worse", "ask", "kind", "count"] ["spring", "sequence"] (defScope s_law_rows) := ⟨rfl, rfl, rfl, by decide +kernel, rfl, by decide +kernel, by decide +kernel⟩
def sp_law_rows : Sp := fun vs H Q _ => ∃ (sp p : Addr) (rs : List Run), vs = [.ref sp, .ref p] ∧ Spr H sp ∧ Runs H p rs ∧ SeqOk rs ∧ rs.length ≤ 6 ∧ ∀ H' L rows, But sp H H' → Spr H' sp → Rp H' (.ref L) (.lst rows) → Rows rows → Q (.ref L) H'
theorem ok_law_rows (D : Df K mg "_law_rows" s_law_rows) (T : Tx mg) (G_law_draw : Has P w K mg base 1 "_law_draw" ["spring", "many"] sp_law_draw) (G_law_no_sequence : Has P w K mg base 2 "_law_no_sequence" ["spring", "sequence"] sp_law_no_sequence) : Has P w K mg base 3 "_law_rows" ["spring", "sequence"] sp_law_rows := by
  refine has_of D sc_law_rows (fun _ _ _ _ _ _ us hl => match us, hl with | [_, _], _ => rfl) (fun vs H Q E h => ?_) (fun f cdv A outer s₀ H vs Q E hr h => ?_)
  · obtain ⟨_, _, _, rfl, _⟩ := h
    rfl
  · obtain ⟨sp, p, rs, rfl, z0, hR0, ok, l6, q⟩ := h
    have kk : ∀ r ∈ rs, KindOk r.1 ∧ r.2.natAbs < 10 ^ 60 := fun r hr => ⟨(ok.2.1 r hr).1, by have := (ok.2.1 r hr).2; omega⟩
    have ln : 0 ≤ lenR rs ∧ lenR rs ≤ 1000000000000000000000000000000 * 6 := by
      have gen : ∀ l : List Run, (∀ r ∈ l, 1 ≤ r.2 ∧ r.2 ≤ 1000000000000000000000000000000) → 0 ≤ lenR l ∧ lenR l ≤ 1000000000000000000000000000000 * (l.length : Int) := by
        intro l
        induction l with
        | nil => intro _; exact ⟨Int.le_refl _, Int.le_refl _⟩
        | cons r t ih =>
          intro k
          have h1 := k r (List.mem_cons_self ..)
          have h2 := ih fun x hx => k x (List.mem_cons_of_mem _ hx)
          rw [lenR_cons, List.length_cons, Int.natCast_add, Int.mul_add]
          have e : (1000000000000000000000000000000 : Int) * ((1 : Nat) : Int) = 1000000000000000000000000000000 := Int.mul_one _
          omega
      have := gen rs fun r hr => (ok.2.1 r hr).2
      omega
    refine ⟨_, (pss_cons (ps_asg (pe_tup (pa_cons (pe_callH G_law_no_sequence (hr.mono (by omega)) (by rfl) (pa_cons (pv 0) (pa_cons (pv 1) pa_nil))) (pa_cons (pe_callH G_law_no_sequence (hr.mono (by omega)) (by rfl) (pa_cons (pv 0) (pa_cons (pv 1) pa_nil))) pa_nil))) (pg_tup rfl (pgs_cons (pg_name (i := 8) sc_law_rows.nd rfl (by first | exact Or.inl rfl | exact Or.inr rfl)) (pgs_cons (pg_name (i := 9) sc_law_rows.nd rfl (by first | exact Or.inl rfl | exact Or.inr rfl)) pgs_nil))))
    (pss_cons (ps_set (i := 2) sc_law_rows.nd rfl (by first | exact Or.inl rfl | exact Or.inr rfl) (pe_callB (cr_sum rfl) (by rfl) T.n_sum (by decide +kernel) (pa_cons (pe_lc (own := [("kind", 11), ("count", 12)]) rfl sc_law_rows.nd (pi_list (pv 1)) (blkOk_by (N := ["spring", "sequence", "length", "odd", "wrong", "start", "rows", "items", "bad", "worse", "ask", "kind", "count"]) (sc := defScope s_law_rows) (by decide +kernel)) (fun _ _ _ _ _ => (pg_tupK (K := K) (n := 2) rfl rfl (pgs_cons (pg_name (i := 11) sc_law_rows.nd rfl (by first | exact Or.inl rfl | exact Or.inr rfl)) (pgs_cons (pg_name (i := 12) sc_law_rows.nd rfl (by first | exact Or.inl rfl | exact Or.inr rfl)) pgs_nil)))) (fun _ _ _ _ _ => pts_nil) (fun _ _ _ _ _ => (pv 12))) pa_nil)))
    (pss_cons (ps_set (i := 3) sc_law_rows.nd rfl (by first | exact Or.inl rfl | exact Or.inr rfl) (pe_ix ix_list (pe_lst (pa_cons (pe_un un_neg pe_int) (pa_cons (pe_op op_add (pv 2) pe_int) (pa_cons (pe_op op_pow pe_int pe_int) (pa_cons pe_non (pa_cons pe_bl (pa_cons pe_str (pa_cons (pe_lst (pa_cons pe_int pa_nil)) (pa_cons (pe_un un_neg (pe_op op_pow pe_int pe_int)) (pa_cons pe_bl pa_nil)))))))))) (pe_callH G_law_draw (hr.mono (by omega)) (by rfl) (pa_cons (pv 0) (pa_cons pe_int pa_nil))) (fun _ _ => rfl)))
    (pss_cons (ps_set (i := 4) sc_law_rows.nd rfl (by first | exact Or.inl rfl | exact Or.inr rfl) (pe_ix ix_list (pe_lst (pa_cons (pe_un un_neg pe_int) (pa_cons pe_non (pa_cons pe_bl (pa_cons pe_str (pa_cons (pe_tup (pa_cons pe_int pa_nil)) (pa_cons (pe_op op_pow pe_int pe_int) pa_nil))))))) (pe_callH G_law_draw (hr.mono (by omega)) (by rfl) (pa_cons (pv 0) (pa_cons pe_int pa_nil))) (fun _ _ => rfl)))
    (pss_cons (ps_set (i := 5) sc_law_rows.nd rfl (by first | exact Or.inl rfl | exact Or.inr rfl) (pe_callH G_law_draw (hr.mono (by omega)) (by rfl) (pa_cons (pv 0) (pa_cons (pe_op op_add (pv 2) pe_int) pa_nil))))
    (pss_cons (ps_setLc (i := 6) (own := [("ask", 10)]) rfl sc_law_rows.nd rfl rfl (sw_true rfl rfl rfl (by decide +kernel)) (pi_list (pe_lst (pa_cons pe_int (pa_cons pe_int (pa_cons pe_int (pa_cons pe_int (pa_cons pe_int pa_nil))))))) (blkOk_by (N := ["spring", "sequence", "length", "odd", "wrong", "start", "rows", "items", "bad", "worse", "ask", "kind", "count"]) (sc := defScope s_law_rows) (by decide +kernel)) (fun _ _ _ _ _ => (pg_name (i := 10) sc_law_rows.nd rfl (by first | exact Or.inl rfl | exact Or.inr rfl))) (fun _ _ _ _ _ => pts_nil) (fun _ _ _ _ _ => (pe_tup (pa_cons (pv 10) (pa_cons (pv 8) (pa_cons (pv 3) (pa_cons (pv 4) (pa_cons pe_str pa_nil))))))))
    (pss_cons (ps_set (i := 6) sc_law_rows.nd rfl (by first | exact Or.inl rfl | exact Or.inr rfl) (pe_op op_cat (pv 6) (pe_lst (pa_cons (pe_tup (pa_cons pe_int (pa_cons (pv 8) (pa_cons (pv 9) (pa_cons pe_int (pa_cons pe_str pa_nil)))))) (pa_cons (pe_tup (pa_cons pe_int (pa_cons (pv 1) (pa_cons (pv 9) (pa_cons pe_int (pa_cons pe_str pa_nil)))))) pa_nil)))))
    (pss_cons (ps_set (i := 6) sc_law_rows.nd rfl (by first | exact Or.inl rfl | exact Or.inr rfl) (pe_op op_cat (pv 6) (pe_lst (pa_cons (pe_tup (pa_cons pe_int (pa_cons (pv 8) (pa_cons (pv 1) (pa_cons pe_int (pa_cons pe_str pa_nil)))))) (pa_cons (pe_tup (pa_cons pe_int (pa_cons (pv 1) (pa_cons (pv 3) (pa_cons pe_int (pa_cons pe_str pa_nil)))))) pa_nil)))))
    (pss_cons (ps_set (i := 6) sc_law_rows.nd rfl (by first | exact Or.inl rfl | exact Or.inr rfl) (pe_op op_cat (pv 6) (pe_lst (pa_cons (pe_tup (pa_cons pe_int (pa_cons (pv 1) (pa_cons (pv 2) (pa_cons pe_int (pa_cons pe_str pa_nil)))))) (pa_cons (pe_tup (pa_cons pe_int (pa_cons (pv 1) (pa_cons (pv 3) (pa_cons (pv 4) (pa_cons pe_str pa_nil)))))) pa_nil)))))
    (pss_cons (ps_expr (pe_bm PySem.F.plainAttrs_list PySem.F.slot_list_append PySem.F.type_list_append mt_append (pv 6) (pa_cons (pe_tup (pa_cons pe_int (pa_cons (pv 1) (pa_cons (pv 5) (pa_cons (pv 4) (pa_cons pe_str pa_nil)))))) pa_nil)))
    (pss_cons (ps_expr (pe_bm PySem.F.plainAttrs_list PySem.F.slot_list_append PySem.F.type_list_append mt_append (pv 6) (pa_cons (pe_tup (pa_cons pe_int (pa_cons (pv 1) (pa_cons (pv 5) (pa_cons (pe_op op_add (pe_op op_sub (pv 2) (pv 5)) pe_int) (pa_cons pe_str pa_nil)))))) pa_nil)))
    (pss_cons (ps_set (i := 6) sc_law_rows.nd rfl (by first | exact Or.inl rfl | exact Or.inr rfl) (pe_op op_cat (pv 6) (pe_lst (pa_cons (pe_tup (pa_cons pe_int (pa_cons (pv 1) (pa_cons (pv 2) (pa_cons pe_int (pa_cons pe_str pa_nil)))))) (pa_cons (pe_tup (pa_cons pe_int (pa_cons (pv 1) (pa_cons pe_int (pa_cons (pv 2) (pa_cons pe_str pa_nil)))))) (pa_cons (pe_tup (pa_cons pe_int (pa_cons (pv 1) (pa_cons pe_int (pa_cons pe_int (pa_cons pe_str pa_nil)))))) pa_nil))))))
    (pss_cons (ps_set (i := 6) sc_law_rows.nd rfl (by first | exact Or.inl rfl | exact Or.inr rfl) (pe_op op_cat (pv 6) (pe_op op_rep (pe_lst (pa_cons (pe_tup (pa_cons pe_int (pa_cons (pv 1) (pa_cons (pe_op op_sub (pv 2) pe_int) (pa_cons pe_int (pa_cons pe_str pa_nil)))))) pa_nil)) (pe_callTy call_int1 (by rfl) T.n_int (by decide +kernel) (pa_cons (pe_cmpR op_gt (pv 2) pe_int (nomark _)) pa_nil)))))
    (pss_cons (ps_set (i := 7) sc_law_rows.nd rfl (by first | exact Or.inl rfl | exact Or.inr rfl) (pe_lst (pa_cons pe_non (pa_cons pe_int (pa_cons pe_str (pa_cons pe_dnewK (pa_cons (pe_lst (pa_cons pe_str (pa_cons pe_non pa_nil))) (pa_cons (pe_lst (pa_cons pe_str pa_nil)) (pa_cons (pe_lst (pa_cons pe_str pa_nil)) (pa_cons (pe_op op_rep (pe_lst (pa_cons pe_str pa_nil)) pe_int) (pa_cons (pe_lst (pa_cons pe_str pa_nil)) (pa_cons (pe_lst (pa_cons (pe_lst (pa_cons pe_str pa_nil)) pa_nil)) (pa_cons (pe_lst (pa_cons pe_str (pa_cons pe_int pa_nil))) (pa_cons pe_bl pa_nil))))))))))))))
    (pss_cons (ps_set (i := 6) sc_law_rows.nd rfl (by first | exact Or.inl rfl | exact Or.inr rfl) (pe_op op_cat (pv 6) (pe_lst (pa_cons (pe_tup (pa_cons pe_int (pa_cons (pe_ix ix_list (pv 7) (pe_callH G_law_draw (hr.mono (by omega)) (by rfl) (pa_cons (pv 0) (pa_cons pe_int pa_nil))) (fun _ _ => rfl)) (pa_cons pe_int (pa_cons pe_int (pa_cons pe_str pa_nil)))))) (pa_cons (pe_tup (pa_cons pe_int (pa_cons (pe_op op_rep (pe_lst (pa_cons pe_str pa_nil)) pe_int) (pa_cons pe_int (pa_cons pe_int (pa_cons pe_str pa_nil)))))) pa_nil)))))
    (pss_one (ps_ret (pe_op op_cat (pv 6) (pe_lst (pa_cons (pe_tup (pa_cons pe_int (pa_cons (pv 1) (pa_cons pe_int (pa_cons pe_int (pa_cons (pe_ifExp (pt_cmpR op_gt (pv 2) pe_int (nomark _)) pe_str pe_str) pa_nil)))))) pa_nil)))))))))))))))))))), ?_⟩
    refine ⟨_, rfl, _, rfl, sp, p, rs, rfl, z0, hR0, by omega, fun H1 vb B b1 z1 mB rB => ?_⟩
    have hR1 := hR0.but z0 b1
    refine ⟨_, rfl, _, rfl, sp, p, rs, rfl, z1, hR1, by omega, fun H2 vw W b2 z2 mW rW => ⟨(by show 2 ≤ sizeLine; decide), fun t nt => ⟨t, _, rfl, .of upd_same, rfl, _, _, rfl, _, _, rfl, rfl, ?_⟩⟩⟩
    obtain ⟨B0, B1⟩ := noSeq_bad (fun r hr => (kk r hr).1) (by omega) mB
    have B2 := calm_no mB
    have B3 := nis_no kk (by omega) mB
    obtain ⟨W0, W1⟩ := noSeq_bad (fun r hr => (kk r hr).1) (by omega) mW
    have W2 := calm_no mW
    have W3 := nis_no kk (by omega) mW
    have rB := (Rp.butS z1 b2 rB B2).same (same_upd (o := .tup [vb, vw]) nt)
    have rW := rW.same (same_upd (o := .tup [vb, vw]) nt)
    have hR := (hR1.but z1 b2).same (same_upd (o := .tup [vb, vw]) nt)
    have z := z2.same (same_upd (o := .tup [vb, vw]) nt)
    have bt := (b1.trans b2).trans (sb (sp := sp) (same_upd (o := .tup [vb, vw]) nt))
    generalize upd H2 t (.tup [vb, vw]) = H3 at *
    clear hR1 hR0 b1 b2 z0 z1 z2 mB mW nt
    refine set_go (σ' := [some (.ref sp), some (.ref p), none, none, none, none, none, none, some vb, some vw, none, none, none]) rfl ?_
    -- length
    have rS := rp_runs hR
    obtain ⟨xs, hx, hp⟩ := hR
    have lx : xs.length = rs.length := Paired.len hp
    refine ⟨_, rfl, p, rfl, ⟨xs, .of hx⟩, fun L nL => lc_list (K := K) (a := p) (xs := xs) (fun i H' => Same H3 H' ∧ H' L = some (.lst (((rs.map (·.2)).take i).map V.int))) ⟨same_upd nL, upd_same⟩ (fun i H' _ p => .of (p.1 _ _ hx)) (fun i x H5 ex hP => ?_) (fun H5 hP => ?_)⟩
    · obtain ⟨sm, hL⟩ := hP
      obtain ⟨r, er, hr1⟩ := Paired.at hp ex
      obtain ⟨t, rfl, ht⟩ := RunV.same sm hr1
      refine ⟨t, _, rfl, .of ht, rfl, _, _, rfl, _, _, rfl, rfl, rfl, yesT ⟨_, rfl, _, hL, ?_, same_grow nL sm, ?_⟩⟩
      · simp only [List.length_map, List.length_take]
        exact small (by omega)
      · rw [upd_same, take_snoc (x := r.2) (by rw [List.getElem?_map, er]; rfl), List.map_append]
        rfl
    obtain ⟨s5, hL⟩ := hP
    rw [List.take_of_length_le (by rw [List.length_map]; omega)] at hL
    refine ⟨L, (rs.map (fun r : Run => r.2)), rfl, .of hL, ?_⟩
    have z := z.same s5
    have bt := bt.trans (sb s5)
    have S2 := calm_seq rs
    have fv : FV H5 [(.ref p, .lst (rs.map dR)), (vb, B), (vw, W)] := (FV.cons rS S2 (.cons rB B2 (.cons rW W2 .nil))).same s5
    clear hx hp hL nL s5 lx rS rB rW
    have S0 := (seq_good ok).1
    have S1 := (seq_good ok).2
    have S3 := nis_runs kk (by omega)
    have S4 := runs_dR rs
    obtain ⟨S, eS⟩ : ∃ S, Dat.lst (rs.map dR) = S := ⟨_, rfl⟩
    rw [eS] at S0 S1 S2 S3 S4 fv
    obtain ⟨n, en⟩ : ∃ n, lenR rs = n := ⟨_, rfl⟩
    have en2 : lenR S.runs = n := by rw [S4]; exact en
    have esum : lenR rs = n := en
    rw [en] at ln
    refine gset_go (σ' := [some (.ref sp), some (.ref p), some (.int n), none, none, none, none, none, some vb, some vw, none, none, none]) (by rw [← en]; rfl) ?_
    refine nx_go ?_
    refine lit_setIx (ds := oddR n) (lit_lst (lits_cons (lit_val (v := .int (-1)) (fun H Q q => ⟨1, rfl, q⟩) (fun H => .int _)) (lits_cons (lit_val (v := .int (n + 1)) (fun H Q q => ⟨_, rfl, _, _, rfl, rfl, q⟩) (fun H => .int _)) (lits_cons (lit_val (v := .int ((10 : Int) ^ ((39 : Int).toNat))) (fun H Q q => ⟨_, _, rfl, rfl, ⟨by decide, by decide, by decide⟩, q⟩) (fun H => .int _)) (lits_cons lit_non (lits_cons lit_bl (lits_cons lit_str (lits_cons (lit_lst (lits_cons lit_int lits_nil) (Nat.le_of_ble_eq_true rfl)) (lits_cons (lit_val (v := .int (-((10 : Int) ^ ((30 : Int).toNat)))) (fun H Q q => ⟨_, _, rfl, rfl, ⟨by decide, by decide, by decide⟩, _, rfl, q⟩) (fun H => .int _)) (lits_cons lit_bl lits_nil))))))))) (Nat.le_of_ble_eq_true rfl)) (fun H6 lv sl rl => ⟨_, rfl, sp, 9, rfl, z.same sl, by decide, by decide, fun H7 r b' z' r0 r1 => ?_⟩)
    obtain ⟨la, lxs, Ov, rfl, hl, atl, hat⟩ := rp_at (Rp.butS (z.same sl) b' rl rfl) r0 (by show r.toNat < 9; omega)
    refine ⟨la, lxs, r, Ov, rfl, rfl, .of hl, atl, ?_⟩
    refine set_go (σ' := [some (.ref sp), some (.ref p), some (.int n), some Ov, none, none, none, none, some vb, some vw, none, none, none]) rfl ?_
    obtain ⟨dO, eO, mO⟩ : ∃ d, d = (oddR n)[r.toNat]'(by show r.toNat < 9; omega) ∧ d ∈ oddR n := ⟨_, rfl, List.getElem_mem _⟩
    have rO : Rp H7 Ov dO := by rw [eO]; exact hat
    have kO := odd_bad ln.1 (by omega) dO mO
    have fv := FV.cons rO kO.1 ((fv.same sl).butS (z.same sl) b')
    have bt := bt.trans ((sb sl).trans b')
    have z := z'
    clear eO mO rO hat rl hl atl b' sl z' r0 r1
    refine lit_setIx (ds := wrongR) (lit_lst (lits_cons (lit_val (v := .int (-1)) (fun H Q q => ⟨1, rfl, q⟩) (fun H => .int _)) (lits_cons lit_non (lits_cons lit_bl (lits_cons lit_str (lits_cons (lit_tup (lits_cons lit_int lits_nil) (Nat.le_of_ble_eq_true rfl)) (lits_cons (lit_val (v := .int ((10 : Int) ^ ((39 : Int).toNat))) (fun H Q q => ⟨_, _, rfl, rfl, ⟨by decide, by decide, by decide⟩, q⟩) (fun H => .int _)) lits_nil)))))) (Nat.le_of_ble_eq_true rfl)) (fun H8 lv sl rl => ⟨_, rfl, sp, 6, rfl, z.same sl, by decide, by decide, fun H9 r b' z' r0 r1 => ?_⟩)
    obtain ⟨la, lxs, Vv, rfl, hl, atl, hat⟩ := rp_at (Rp.butS (z.same sl) b' rl rfl) r0 (by show r.toNat < 6; omega)
    refine ⟨la, lxs, r, Vv, rfl, rfl, .of hl, atl, ?_⟩
    refine set_go (σ' := [some (.ref sp), some (.ref p), some (.int n), some Ov, some Vv, none, none, none, some vb, some vw, none, none, none]) rfl ?_
    obtain ⟨dV, eV, mV⟩ : ∃ d, d = (wrongR)[r.toNat]'(by show r.toNat < 6; omega) ∧ d ∈ wrongR := ⟨_, rfl, List.getElem_mem _⟩
    have rV : Rp H9 Vv dV := by rw [eV]; exact hat
    have kV := wrong_bad dV mV
    have fv := FV.cons rV kV.1 ((fv.same sl).butS (z.same sl) b')
    have bt := bt.trans ((sb sl).trans b')
    have z := z'
    clear eV mV rV hat rl hl atl b' sl z' r0 r1
    refine ⟨_, rfl, _, rfl, _, _, rfl, rfl, sp, _, rfl, z, (by show 1 ≤ n + 1; omega), (wide8 (by show 0 ≤ n + 1; omega) (by show n + 1 ≤ _; omega)), fun H10 s b' z' s0 s1 => ?_⟩
    have s1 : s < n + 1 := s1
    have fv := fv.butS z b'
    have bt := bt.trans b'
    have z := z'
    clear z' b'
    refine gset_go (σ' := [some (.ref sp), some (.ref p), some (.int n), some Ov, some Vv, some (.int s), none, none, some vb, some vw, none, none, none]) rfl (nx_go ?_)
    refine ⟨(by show 5 ≤ sizeLine; decide), fun M nM => ⟨M, rfl, ⟨_, .of upd_same⟩, fun L nL => ?_⟩⟩
    have uM := same_upd (o := .lst [.int 0, .int 1, .int 2, .int 3, .int 6]) nM
    have hM : (upd H10 M (.lst [.int 0, .int 1, .int 2, .int 3, .int 6])) M = some (.lst [.int 0, .int 1, .int 2, .int 3, .int 6]) := upd_same
    have fv := fv.same uM
    have z := z.same uM
    have bt := bt.trans (sb uM)
    obtain ⟨HM, eHM⟩ : ∃ HM, upd H10 M (.lst [.int 0, .int 1, .int 2, .int 3, .int 6]) = HM := ⟨_, rfl⟩
    rw [eHM] at nL hM fv z bt ⊢
    clear eHM uM nM
    have rB := fv.at (i := 3) rfl
    have rO := fv.at (i := 1) rfl
    have rV := fv.at (i := 0) rfl
    refine lc_list (K := K) (a := M) (xs := [.int 0, .int 1, .int 2, .int 3, .int 6]) (fun i H' => Same HM H' ∧ ∃ ys, H' L = some (.lst ys) ∧ Paired (fun (v : V) (k : Int) => ∃ t, v = .ref t ∧ H' t = some (.tup [.int k, vb, Ov, Vv, .str "InvalidSequence"])) ys (([0, 1, 2, 3, 6] : List Int).take i)) ⟨same_upd nL, [], upd_same, .nil⟩ (fun i H' _ p => .of (p.1 _ _ hM)) (fun i x H' ex hP => ?_) (fun H' hP => ?_)
    · obtain ⟨sm, ys, hL, hy⟩ := hP
      obtain ⟨k, ek, rfl⟩ : ∃ k : Int, ([0, 1, 2, 3, 6] : List Int)[i]? = some k ∧ V.int k = x := by
        rw [show ([V.int 0, .int 1, .int 2, .int 3, .int 6] : List V) = ([0, 1, 2, 3, 6] : List Int).map V.int from rfl, List.getElem?_map] at ex
        cases hk : ([0, 1, 2, 3, 6] : List Int)[i]? with
        | none => rw [hk] at ex; cases ex
        | some k => rw [hk] at ex; exact ⟨k, rfl, Option.some.inj ex⟩
      have hi : i < 5 := (List.getElem?_eq_some_iff.mp ek).1
      refine ⟨rfl, yesT ⟨_, rfl, _, rfl, _, rfl, _, rfl, (by show 5 ≤ sizeLine; decide), fun t nt => ⟨_, same_upd nt _ _ hL, ?_, same_grow nL (sm.trans (same_upd nt)), _, upd_same, ?_⟩⟩⟩
      · have := Paired.len hy
        rw [List.length_take] at this
        exact small (by show ys.length ≤ _; omega)
      · rw [take_snoc ek]
        have nt2 : t ≠ L := fun z => by rw [z, hL] at nt; cases nt
        refine Paired.app (Paired.imp (fun v k h => ?_) hy) (.cons ⟨t, rfl, by rw [upd_ne nt2, upd_same]⟩ .nil)
        obtain ⟨t0, rfl, h0⟩ := h
        exact ⟨t0, rfl, by rw [upd_ne (ne_of h0 hL (by intro z; cases z)), upd_ne (ne_of_none h0 nt)]; exact h0⟩
    obtain ⟨sm, ys, hL, hy⟩ := hP
    have fv := fv.same sm
    have z := z.same sm
    have bt := bt.trans (sb sm)
    have rR : Rp H' (.ref L) (.lst [.tup [.int 0, B, dO, dV, .str "InvalidSequence"], .tup [.int 1, B, dO, dV, .str "InvalidSequence"], .tup [.int 2, B, dO, dV, .str "InvalidSequence"], .tup [.int 3, B, dO, dV, .str "InvalidSequence"], .tup [.int 6, B, dO, dV, .str "InvalidSequence"]]) := .lst hL (by
      have g : ∀ {vs : List V} {ks : List Int}, Paired (fun (v : V) (k : Int) => ∃ t, v = .ref t ∧ H' t = some (.tup [.int k, vb, Ov, Vv, .str "InvalidSequence"])) vs ks → Paired (Rp H') vs (ks.map fun k => Dat.tup [.int k, B, dO, dV, .str "InvalidSequence"]) := by
        intro vs ks h
        induction h with
        | nil => exact .nil
        | cons h _ ih =>
          obtain ⟨t0, rfl, h0⟩ := h
          exact .cons (.tup h0 (.cons (.int _) (.cons (rB.same sm) (.cons (rO.same sm) (.cons (rV.same sm) (.cons (.str _) .nil)))))) ih
      exact g hy)
    clear hL hy sm nL hM rB rO rV
    have nz : Nis 20000 5 (Dat.int 0).py := nis_of (by decide +kernel)
    have nn : ∀ {k : Int}, k.natAbs < 10 ^ 60 → Nis 20000 5 (Dat.int k).py := fun h => (nis_int h).mono (by decide) (by decide)
    have ok5 : ∀ {k : Int}, Er k B dO dV "InvalidSequence" → k.natAbs < 10 ^ 60 → RowOk (.tup [.int k, B, dO, dV, .str "InvalidSequence"]) := fun e h => row_ok e h B2 kO.1 kV.1 B3 kO.2.2 kV.2.2 (by decide +kernel)
    have kR := rows_cons (ok5 (.q0 B1 B0) (by decide)) (rows_cons (ok5 (.q1 B1 B0) (by decide)) (rows_cons (ok5 (.q2 B1 B0) (by decide)) (rows_cons (ok5 (.q3 B1 B0) (by decide)) (rows_cons (ok5 (.q6 B1 B0) (by decide)) rows_nil))))
    clear ok5
    refine gset_go (σ' := [some (.ref sp), some (.ref p), some (.int n), some Ov, some Vv, some (.int s), some (.ref L), none, some vb, some vw, none, none, none]) rfl (nx_go ?_)
    refine lit_set (lit_cat (lit_var rfl rR) (lit_lst (lits_cons (lit_tup (lits_cons lit_int (lits_cons (lit_var rfl (fv.at (i := 3) rfl)) (lits_cons (lit_var rfl (fv.at (i := 4) rfl)) (lits_cons lit_int (lits_cons lit_str lits_nil))))) (Nat.le_of_ble_eq_true rfl)) (lits_cons (lit_tup (lits_cons lit_int (lits_cons (lit_var rfl (fv.at (i := 2) rfl)) (lits_cons (lit_var rfl (fv.at (i := 4) rfl)) (lits_cons lit_int (lits_cons lit_str lits_nil))))) (Nat.le_of_ble_eq_true rfl)) lits_nil)) (Nat.le_of_ble_eq_true rfl)) (Nat.le_of_ble_eq_true rfl)) (fun H11 rv sr rr => ?_)
    refine set_go (σ' := [some (.ref sp), some (.ref p), some (.int n), some Ov, some Vv, some (.int s), some rv, none, some vb, some vw, none, none, none]) rfl ?_
    have fv := fv.same sr
    have z := z.same sr
    have bt := bt.trans (sb sr)
    have kR := rows_app kR (rows_cons (row_ok (k := 4) (a := B) (b := W) (c := .int 0) (due := "InvalidSequence") (.q4 B1 W1 (.inl B0)) (by decide) B2 W2 rfl B3 W3 nz (by decide +kernel)) (rows_cons (row_ok (k := 4) (a := S) (b := W) (c := .int 0) (due := "InvalidSequence") (.q4 S1 W1 (.inr ⟨S0, W0⟩)) (by decide) S2 W2 rfl S3 W3 nz (by decide +kernel)) rows_nil))
    have rR := rr
    clear rr sr
    refine lit_set (lit_cat (lit_var rfl rR) (lit_lst (lits_cons (lit_tup (lits_cons lit_int (lits_cons (lit_var rfl (fv.at (i := 3) rfl)) (lits_cons (lit_var rfl (fv.at (i := 2) rfl)) (lits_cons lit_int (lits_cons lit_str lits_nil))))) (Nat.le_of_ble_eq_true rfl)) (lits_cons (lit_tup (lits_cons lit_int (lits_cons (lit_var rfl (fv.at (i := 2) rfl)) (lits_cons (lit_var rfl (fv.at (i := 1) rfl)) (lits_cons lit_int (lits_cons lit_str lits_nil))))) (Nat.le_of_ble_eq_true rfl)) lits_nil)) (Nat.le_of_ble_eq_true rfl)) (Nat.le_of_ble_eq_true rfl)) (fun H12 rv sr rr => ?_)
    refine set_go (σ' := [some (.ref sp), some (.ref p), some (.int n), some Ov, some Vv, some (.int s), some rv, none, some vb, some vw, none, none, none]) rfl ?_
    have fv := fv.same sr
    have z := z.same sr
    have bt := bt.trans (sb sr)
    have kR := rows_app kR (rows_cons (row_ok (k := 4) (a := B) (b := S) (c := .int 0) (due := "InvalidSequence") (.q4 B1 S1 (.inl B0)) (by decide) B2 S2 rfl B3 S3 nz (by decide +kernel)) (rows_cons (row_ok (k := 2) (a := S) (b := dO) (c := .int 0) (due := "InvalidPosition") (.p2 S1 S0 (by rw [en2]; exact kO.2.1 _ (by omega))) (by decide) S2 kO.1 rfl S3 kO.2.2 nz (by decide +kernel)) rows_nil))
    have rR := rr
    clear rr sr
    refine lit_catN (lit_var rfl rR) (lit_lst (lits_cons (lit_tup (lits_cons lit_int (lits_cons (lit_var rfl (fv.at (i := 2) rfl)) (lits_cons (lit_var rfl (.int n)) (lits_cons lit_int (lits_cons lit_str lits_nil))))) (Nat.le_of_ble_eq_true rfl)) (lits_cons (lit_tup (lits_cons lit_int (lits_cons (lit_var rfl (fv.at (i := 2) rfl)) (lits_cons (lit_var rfl (fv.at (i := 1) rfl)) (lits_cons (lit_var rfl (fv.at (i := 0) rfl)) (lits_cons lit_str lits_nil))))) (Nat.le_of_ble_eq_true rfl)) lits_nil)) (Nat.le_of_ble_eq_true rfl)) (Nat.le_of_ble_eq_true rfl) (fun H13 L xs sr nL pr => ?_)
    refine set_go (σ' := [some (.ref sp), some (.ref p), some (.int n), some Ov, some Vv, some (.int s), some (.ref L), none, some vb, some vw, none, none, none]) rfl ?_
    have fv := fv.same sr
    have z := z.same sr
    have bt := bt.trans (sb sr)
    have kR := rows_app kR (rows_cons (row_ok (k := 2) (a := S) (b := .int n) (c := .int 0) (due := "InvalidPosition") (.p2 S1 S0 (by rw [en2]; exact inI_no (by omega))) (by decide) S2 rfl rfl S3 (nn (by omega)) nz (by decide +kernel)) (rows_cons (row_ok (k := 3) (a := S) (b := dO) (c := dV) (due := "InvalidPosition") (.p3 S1 S0 (by rw [en2]; exact kO.2.1 _ (by omega))) (by decide) S2 kO.1 kV.1 S3 kO.2.2 kV.2.2 (by decide +kernel)) rows_nil))
    clear sr rR
    have lxs := Paired.len pr
    refine ⟨_, rfl, .inl ⟨rfl, _, SqL.of upd_same⟩, _, rfl, _, rfl, _, rfl, (by show 5 ≤ sizeLine; decide), fun t nt => ⟨L, _, _, rfl, rfl, same_upd nt _ _ upd_same, small (by rw [lxs]; exact Nat.le_of_ble_eq_true rfl), ?_⟩⟩
    have ntL : t ≠ L := fun z => by rw [z, upd_same] at nt; cases nt
    have nt1 : H13 t = none := by rw [upd_ne ntL] at nt; exact nt
    have sT := same_upd (o := .tup [.int 3, .ref p, .int s, Vv, .str "InvalidNumber"]) nt1
    rw [upd3 ntL]
    have rT : Rp (upd H13 t (.tup [.int 3, .ref p, .int s, Vv, .str "InvalidNumber"])) (.ref t) (.tup [.int 3, S, .int s, dV, .str "InvalidNumber"]) := .tup upd_same (.cons (.int _) (.cons ((fv.at (i := 2) rfl).same sT) (.cons (.int _) (.cons ((fv.at (i := 0) rfl).same sT) (.cons (.str _) .nil)))))
    have pr := Paired.app (rps_same sT pr) (.cons rT .nil)
    have nL := (upd_ne (H := H13) (o := .tup [.int 3, .ref p, .int s, Vv, .str "InvalidNumber"]) ntL.symm).trans nL
    have fv := fv.same sT
    have z := z.same sT
    have bt := bt.trans (sb sT)
    have kR := rows_app kR (rows_cons (row_ok (k := 3) (a := S) (b := .int s) (c := dV) (due := "InvalidNumber") (.m3 S1 S0 s0 (by rw [en2]; omega) (by rw [en2]; exact kV.2.1 _ (by omega))) (by decide) S2 rfl kV.1 S3 (nn (by omega)) kV.2.2 (by decide +kernel)) rows_nil)
    obtain ⟨H14, eH⟩ : ∃ H14, upd H13 t (.tup [.int 3, .ref p, .int s, Vv, .str "InvalidNumber"]) = H14 := ⟨_, rfl⟩
    rw [eH] at pr nL fv z bt ⊢
    obtain ⟨xs, eX⟩ : ∃ ys, xs ++ [V.ref t] = ys := ⟨_, rfl⟩
    rw [eX] at pr ⊢
    clear rT sT nt nt1 ntL eH lxs eX
    have lxs := Paired.len pr
    refine ⟨_, rfl, .inl ⟨rfl, _, SqL.of upd_same⟩, _, rfl, _, rfl, _, rfl, _, rfl, _, _, rfl, rfl, _, _, rfl, rfl, (by show 5 ≤ sizeLine; decide), fun t nt => ⟨L, _, _, rfl, rfl, same_upd nt _ _ upd_same, small (by rw [lxs]; exact Nat.le_of_ble_eq_true rfl), ?_⟩⟩
    have ntL : t ≠ L := fun z => by rw [z, upd_same] at nt; cases nt
    have nt1 : H14 t = none := by rw [upd_ne ntL] at nt; exact nt
    have sT := same_upd (o := .tup [.int 3, .ref p, .int s, .int (n - s + 1), .str "InvalidNumber"]) nt1
    rw [upd3 ntL]
    have rT : Rp (upd H14 t (.tup [.int 3, .ref p, .int s, .int (n - s + 1), .str "InvalidNumber"])) (.ref t) (.tup [.int 3, S, .int s, .int (n - s + 1), .str "InvalidNumber"]) := .tup upd_same (.cons (.int _) (.cons ((fv.at (i := 2) rfl).same sT) (.cons (.int _) (.cons (.int _) (.cons (.str _) .nil)))))
    have pr := Paired.app (rps_same sT pr) (.cons rT .nil)
    have nL := (upd_ne (H := H14) (o := .tup [.int 3, .ref p, .int s, .int (n - s + 1), .str "InvalidNumber"]) ntL.symm).trans nL
    have fv := fv.same sT
    have z := z.same sT
    have bt := bt.trans (sb sT)
    have kR := rows_app kR (rows_cons (row_ok (k := 3) (a := S) (b := .int s) (c := .int (n - s + 1)) (due := "InvalidNumber") (.m3 S1 S0 s0 (by rw [en2]; omega) (by rw [en2]; exact inI_no (by omega))) (by decide) S2 rfl rfl S3 (nn (by omega)) (nn (by omega)) (by decide +kernel)) rows_nil)
    obtain ⟨H15, eH⟩ : ∃ H15, upd H14 t (.tup [.int 3, .ref p, .int s, .int (n - s + 1), .str "InvalidNumber"]) = H15 := ⟨_, rfl⟩
    rw [eH] at pr nL fv z bt ⊢
    obtain ⟨xs, eX⟩ : ∃ ys, xs ++ [V.ref t] = ys := ⟨_, rfl⟩
    rw [eX] at pr ⊢
    clear rT sT nt nt1 ntL eH lxs eX
    have sL : Same H15 (upd H15 L (.lst xs)) := same_upd nL
    have rR := Rp.lst (H := upd H15 L (.lst xs)) upd_same (rps_same sL pr)
    have fv := fv.same sL
    have z := z.same sL
    have bt := bt.trans (sb sL)
    generalize upd H15 L (.lst xs) = H16 at *
    clear sL nL pr
    refine lit_set (lit_cat (lit_var rfl rR) (lit_lst (lits_cons (lit_tup (lits_cons lit_int (lits_cons (lit_var rfl (fv.at (i := 2) rfl)) (lits_cons (lit_var rfl (.int n)) (lits_cons lit_int (lits_cons lit_str lits_nil))))) (Nat.le_of_ble_eq_true rfl)) (lits_cons (lit_tup (lits_cons lit_int (lits_cons (lit_var rfl (fv.at (i := 2) rfl)) (lits_cons lit_int (lits_cons (lit_var rfl (.int n)) (lits_cons lit_str lits_nil))))) (Nat.le_of_ble_eq_true rfl)) (lits_cons (lit_tup (lits_cons lit_int (lits_cons (lit_var rfl (fv.at (i := 2) rfl)) (lits_cons lit_int (lits_cons lit_int (lits_cons lit_str lits_nil))))) (Nat.le_of_ble_eq_true rfl)) lits_nil))) (Nat.le_of_ble_eq_true rfl)) (Nat.le_of_ble_eq_true rfl)) (fun H17 rv sr rr => ?_)
    refine set_go (σ' := [some (.ref sp), some (.ref p), some (.int n), some Ov, some Vv, some (.int s), some rv, none, some vb, some vw, none, none, none]) rfl ?_
    have fv := fv.same sr
    have z := z.same sr
    have bt := bt.trans (sb sr)
    have kR := rows_app kR (rows_cons (row_ok (k := 3) (a := S) (b := .int n) (c := .int 0) (due := "none") (.n3 S0 ln.1 (by decide) (by rw [en2]; omega)) (by decide) S2 rfl rfl S3 (nn (by omega)) nz (by decide +kernel)) (rows_cons (row_ok (k := 3) (a := S) (b := .int 0) (c := .int n) (due := "none") (.n3 S0 (by decide) ln.1 (by rw [en2]; omega)) (by decide) S2 rfl rfl S3 nz (nn (by omega)) (by decide +kernel)) (rows_cons (row_ok (k := 0) (a := S) (b := .int 0) (c := .int 0) (due := "none") (.n0 S0) (by decide) S2 rfl rfl S3 nz nz (by decide +kernel)) rows_nil)))
    have rR := rr
    clear rr sr
    obtain ⟨X, eX, kX, lX⟩ : ∃ X, (List.replicate (if decide (0 < n) = true then (1 : Int) else 0).toNat [Dat.tup [.int 2, S, .int (n - 1), .int 0, .str "none"]]).flatten = X ∧ Rows X ∧ X.length ≤ 1 := by
      by_cases h : 0 < n
      · rw [if_pos (decide_eq_true h)]
        exact ⟨_, rfl, rows_cons (row_ok (k := 2) (a := S) (b := .int (n - 1)) (c := .int 0) (due := "none") (.n2 S0 (by omega) (by rw [en2]; omega)) (by decide) S2 rfl rfl S3 (nn (by omega)) nz (by decide +kernel)) rows_nil, Nat.le_refl _⟩
      · rw [if_neg (by rw [decide_eq_false h]; decide)]
        exact ⟨_, rfl, rows_nil, Nat.zero_le _⟩
    refine lit_set (lit_cat (lit_var rfl rR) (lit_repI (k := if decide (0 < n) = true then (1 : Int) else 0) (lit_lst (lits_cons (lit_tup (lits_cons lit_int (lits_cons (lit_var rfl (fv.at (i := 2) rfl)) (lits_cons (lit_val (v := .int (n - 1)) (fun H Q q => ⟨_, rfl, _, _, rfl, rfl, q⟩) (fun H => .int _)) (lits_cons lit_int (lits_cons lit_str lits_nil))))) (Nat.le_of_ble_eq_true rfl)) lits_nil) (Nat.le_of_ble_eq_true rfl)) (fun H Q sQ q => ⟨_, rfl, _, _, rfl, rfl, .inr ⟨_, rfl, q⟩⟩) (by split <;> decide) (by split <;> decide) (by split <;> exact Nat.le_of_ble_eq_true rfl) eX) (by refine Nat.le_trans (Nat.add_le_add_left lX _) ?_; exact Nat.le_of_ble_eq_true rfl)) (fun H18 rv sr rr => ?_)
    refine set_go (σ' := [some (.ref sp), some (.ref p), some (.int n), some Ov, some Vv, some (.int s), some rv, none, some vb, some vw, none, none, none]) rfl ?_
    have fv := fv.same sr
    have z := z.same sr
    have bt := bt.trans (sb sr)
    have kR := rows_app kR kX
    have rR := rr
    clear rr sr eX
    refine lit_set (d := .lst itemsR) (lit_lst (lits_cons lit_non (lits_cons lit_int (lits_cons lit_str (lits_cons lit_dic (lits_cons (lit_lst (lits_cons lit_str (lits_cons lit_non lits_nil)) (Nat.le_of_ble_eq_true rfl)) (lits_cons (lit_lst (lits_cons lit_str lits_nil) (Nat.le_of_ble_eq_true rfl)) (lits_cons (lit_lst (lits_cons lit_str lits_nil) (Nat.le_of_ble_eq_true rfl)) (lits_cons (lit_rep (lit_lst (lits_cons lit_str lits_nil) (Nat.le_of_ble_eq_true rfl)) (by decide) (by decide) (Nat.le_of_ble_eq_true rfl)) (lits_cons (lit_lst (lits_cons lit_str lits_nil) (Nat.le_of_ble_eq_true rfl)) (lits_cons (lit_lst (lits_cons (lit_lst (lits_cons lit_str lits_nil) (Nat.le_of_ble_eq_true rfl)) lits_nil) (Nat.le_of_ble_eq_true rfl)) (lits_cons (lit_lst (lits_cons lit_str (lits_cons lit_int lits_nil)) (Nat.le_of_ble_eq_true rfl)) (lits_cons lit_bl lits_nil)))))))))))) (Nat.le_of_ble_eq_true rfl)) (fun H19 iv sr rI => ?_)
    refine set_go (σ' := [some (.ref sp), some (.ref p), some (.int n), some Ov, some Vv, some (.int s), some rv, some iv, some vb, some vw, none, none, none]) rfl ?_
    have fv := fv.same sr
    have z := z.same sr
    have bt := bt.trans (sb sr)
    have rR := rR.same sr
    clear sr
    obtain ⟨L0, erv⟩ : ∃ a, rv = .ref a := by
      cases rR with
      | lst e p => exact ⟨_, rfl⟩
    subst erv
    have lX2 := lX
    refine ⟨_, rfl, _, rfl, _, rfl, sp, 12, rfl, z, by decide, by decide, fun H20 r b' z' r0 r1 => ?_⟩
    have fv := fv.butS z b'
    have rI := Rp.butS z b' rI calm_items
    have rR := Rp.butS z b' rR (calm_rows kR)
    have bt := bt.trans b'
    have z := z'
    clear b' z'
    obtain ⟨ia, ixs, Iv, rfl, hl, atl, hat⟩ := rp_at rI r0 (by show r.toNat < 12; omega)
    obtain ⟨dI, eI, mI⟩ : ∃ d, d = itemsR[r.toNat]'(by show r.toNat < 12; omega) ∧ d ∈ itemsR := ⟨_, rfl, List.getElem_mem _⟩
    have rDI : Rp H20 Iv dI := by rw [eI]; exact hat
    have kI := items_all dI mI
    refine ⟨ia, ixs, r, Iv, rfl, rfl, .of hl, atl, (by show 5 ≤ sizeLine; decide), fun t nt => ?_⟩
    have sT := same_upd (o := .tup [.int 5, Iv, .int 0, .int 0, .str "InvalidItems"]) nt
    refine lits_cons (d := .tup [.int 5, .lst aaD, .int 0, .int 0, .str "none"]) (lit_tup (lits_cons lit_int (lits_cons (lit_rep (k := 400) (lit_lst (lits_cons lit_str lits_nil) (Nat.le_of_ble_eq_true rfl)) (by decide) (by decide) (Nat.le_of_ble_eq_true rfl)) (lits_cons lit_int (lits_cons lit_int (lits_cons lit_str lits_nil))))) (Nat.le_of_ble_eq_true rfl)) lits_nil _ _ (Same.refl _) (fun H21 vs2 s2 r2 => ?_)
    have sT2 := sT.trans s2
    have rDT : Rp H21 (.ref t) (.tup [.int 5, dI, .int 0, .int 0, .str "InvalidItems"]) := .tup (s2 _ _ upd_same) (.cons (.int _) (.cons (rDI.same sT2) (.cons (.int _) (.cons (.int _) (.cons (.str _) .nil)))))
    have rR := rR.same sT2
    have fv := fv.same sT2
    have z := z.same sT2
    have bt := bt.trans (sb sT2)
    have pr2 : Paired (Rp H21) (.ref t :: vs2) [.tup [.int 5, dI, .int 0, .int 0, .str "InvalidItems"], .tup [.int 5, .lst aaD, .int 0, .int 0, .str "none"]] := .cons rDT r2
    have l2 := Paired.len pr2
    obtain ⟨Y, eY⟩ : ∃ Y, (V.ref t :: vs2) = Y := ⟨_, rfl⟩
    rw [eY] at pr2 l2
    have kR := rows_app kR (rows_cons (row_ok (k := 5) (a := dI) (b := .int 0) (c := .int 0) (due := "InvalidItems") (.i5 (badIB_ok kI.2.1)) (by decide) kI.1 rfl rfl (nis_of kI.2.2) nz nz (by decide +kernel)) (rows_cons (row_ok (k := 5) (a := .lst aaD) (b := .int 0) (c := .int 0) (due := "none") er_aa (by decide) aaD_all.1 rfl rfl (nis_of aaD_all.2) nz nz (by decide +kernel)) rows_nil))
    clear rDT sT2 s2 sT nt rDI hat hl atl rI r2
    have l2 : Y.length = 2 := l2
    refine ⟨by rw [eY, l2]; show 2 ≤ sizeLine; decide, fun M nM => ?_⟩
    rw [eY]
    have uM := same_upd (o := .lst Y) nM
    have rR := rR.same uM
    have pr2 := rps_same uM pr2
    have fv := fv.same uM
    have z := z.same uM
    have bt := bt.trans (sb uM)
    have hM : (upd H21 M (.lst Y)) M = some (.lst Y) := upd_same
    obtain ⟨H22, eH3⟩ : ∃ HH, upd H21 M (.lst Y) = HH := ⟨_, rfl⟩
    rw [eH3] at rR pr2 fv z bt hM ⊢
    clear eH3 uM nM
    obtain ⟨rxs, eL0, pR⟩ : ∃ xs, H22 L0 = some (.lst xs) ∧ Paired (Rp H22) xs _ := by
      cases rR with
      | lst e p => exact ⟨_, e, p⟩
    have lp : rxs.length ≤ 60 := by
      rw [Paired.len pR]
      simp only [List.length_append, List.length_cons, List.length_nil]
      omega
    refine ⟨L0, M, _, _, rfl, rfl, eL0, hM, smallE (by rw [l2]; omega), fun p9 n9 => ?_⟩
    have u9 := same_upd (o := .lst (rxs ++ Y)) n9
    have rR : Rp (upd H22 p9 (.lst (rxs ++ Y))) (.ref p9) _ := .lst upd_same (rps_same u9 (Paired.app pR pr2))
    have fv := fv.same u9
    have z := z.same u9
    have bt := bt.trans (sb u9)
    obtain ⟨H23, eH4⟩ : ∃ HH, upd H22 p9 (.lst (rxs ++ Y)) = HH := ⟨_, rfl⟩
    rw [eH4] at rR fv z bt ⊢
    clear eH4 u9 n9 pr2 pR hM eL0
    refine gset_go (σ' := [some (.ref sp), some (.ref p), some (.int n), some Ov, some Vv, some (.int s), some (.ref p9), some (.ref ia), some vb, some vw, none, none, none]) rfl (nx_go ?_)
    by_cases h4 : 400 < n
    · refine lit_ret (lit_cat (lit_var rfl rR) (lit_lst (lits_cons (lit_tup (lits_cons lit_int (lits_cons (lit_var rfl (fv.at (i := 2) rfl)) (lits_cons lit_int (lits_cons lit_int (lits_cons (lit_val (v := .str "TooLong") (fun H Q q => ⟨_, rfl, _, _, rfl, rfl, _, rfl, iteP (decide_eq_true h4) q⟩) (fun _ => .str _)) lits_nil))))) (Nat.le_of_ble_eq_true rfl)) lits_nil) (Nat.le_of_ble_eq_true rfl)) (by simp only [List.length_append, List.length_cons, List.length_nil]; omega)) (fun HZ v s9 r9 => ?_)
      have kR := rows_app kR (rows_cons (row_ok (k := 6) (a := S) (b := .int 0) (c := .int 0) (due := "TooLong") (.l6 S1 S0 (by rw [en2]; exact h4)) (by decide) S2 rfl rfl S3 nz nz (by decide +kernel)) rows_nil)
      cases r9 with
      | lst e p => exact q _ _ _ (bt.trans (sb s9)) (z.same s9) (.lst e p) kR
    · refine lit_ret (lit_cat (lit_var rfl rR) (lit_lst (lits_cons (lit_tup (lits_cons lit_int (lits_cons (lit_var rfl (fv.at (i := 2) rfl)) (lits_cons lit_int (lits_cons lit_int (lits_cons (lit_val (v := .str "none") (fun H Q q => ⟨_, rfl, _, _, rfl, rfl, _, rfl, iteN (decide_eq_false h4) q⟩) (fun _ => .str _)) lits_nil))))) (Nat.le_of_ble_eq_true rfl)) lits_nil) (Nat.le_of_ble_eq_true rfl)) (by simp only [List.length_append, List.length_cons, List.length_nil]; omega)) (fun HZ v s9 r9 => ?_)
      have kR := rows_app kR (rows_cons (row_ok (k := 6) (a := S) (b := .int 0) (c := .int 0) (due := "none") (.n6 S0 (by rw [en2]; omega)) (by decide) S2 rfl rfl S3 nz nz (by decide +kernel)) rows_nil)
      cases r9 with
      | lst e p => exact q _ _ _ (bt.trans (sb s9)) (z.same s9) (.lst e p) kR
end
end UP

set_option Elab.async false
set_option linter.all false
set_option maxRecDepth 100000
set_option maxHeartbeats 4000000
set_option pp.maxSteps 700
namespace UP
open PySem PySem.Spec PyProof.Rows L2
/-- an exception that an expression makes is kept -/
theorem pe_mk {X : Cx} {e : Expr} {t : L2.St → Hp → XK → Prop} (hx0 : X.ex = []) (he : PMk X e t) : PE X e (fun σ H Q => t σ H fun cls d H' => ∀ a, H' a = none → Q (.ref a) (upd H' a (ExD cls d a))) := by
  refine ⟨fun pins s σ H Q I h => ?_⟩
  refine wpAny_mono (he pins s σ H _ I h) (fun u s1 hu => ?_) (fun _ _ x => x)
  obtain ⟨a, oe, vs, sI, H', cls, d, rfl, J, k, hne, ha, hz, hd, h1, na, os, ag, r, q⟩ := hu
  have J1 : Inv X pins σ H' s1 := J.landed (B := PySem.W.hideAll sI.heap (frs X.stack)) (fun b o e hb => PySem.W.hideAll_get _ e hb) (fun b o e => k b o (PySem.W.of_hideAll _ e)) (Heap.UpToSlots.of_keeps k) os ag
  have n0 : X.s_0.heap.get? a = none := by
    cases h0 : X.s_0.heap.get? a with
    | none => rfl
    | some o =>
      obtain ⟨o', e'⟩ := J.base.there a o h0 (by rw [hx0]; exact List.not_mem_nil)
      rw [hne] at e'
      cases e'
  have nL : a ≠ X.env.locals := fun z => by
    obtain ⟨m, hns, _⟩ := J.loc
    obtain ⟨od, _, _, ho, _⟩ := hns
    rw [← z, hne] at ho
    cases ho
  have np : ∀ p ∈ X.pn ++ pins, p.1 ≠ a := fun p hp z => by
    have := (J.pin p hp).1
    rw [z, hne] at this
    cases this
  exact ⟨.ref a, _, track J1 na ha hz hd n0 nL np, rfl, q a na⟩
section
variable {X : Cx}
/-- an attribute of a kept exception -/
def tXt (C : Addr) (n : Str) (te : TE) : TE := fun σ H Q => te σ H fun x H1 => ∃ (a dd : Addr) (fs : List (Str × V)) (v : V), x = .ref a ∧ H1 a = some (ExD (.ref C) (some dd) a) ∧ H1 dd = some (.xd fs) ∧ fs.lookup n = some v ∧ Q v H1
theorem pe_xfT {C : Addr} {e : Expr} {te : TE} {pos : Pos} {n : Str} (T : XfC X.K C) (hno : PySem.W.findIn X.K (.ref C) n = some none) (he : PE X e te) (hb : attributeBase e n X.env (eval e X.env) = eval e X.env := by rfl) : PE X (.Attribute e n pos) (tXt C n te) := by
  refine ⟨fun pins s σ H Q I h => ?_⟩
  refine attr_of hb (thn (he.run pins s σ H _ I h) fun u s1 hh => ?_)
  obtain ⟨x, H1, I1, rx, a, dd, fs, v, ex, hE, ea, l, q⟩ := hh
  subst ex
  obtain rfl : u = Value.ref a := rx
  have z : ObjOk X.prog X.w H1 s1.heap a (.ext fun h => ∃ (oe : Obj) (vs : Array Value), h.get? a = some oe ∧ Zc (.ref C) (some dd) oe ∧ oe.data = .fields vs) := I1.hok a _ hE
  obtain ⟨⟨oe, vs, ha, hz, hd⟩, _⟩ := z
  have hx : ObjOk X.prog X.w H1 s1.heap dd (.xd fs) := I1.hok dd _ ea
  obtain ⟨mA, hns, hr⟩ := hx
  obtain ⟨od, ho, hl⟩ := lookIn_ns hns
  obtain ⟨u, hu, ru⟩ := RelO.some_of (v := v) (o := mA n) (by rw [← l]; exact hr n)
  have J : PySem.W.InstAt s1.heap a oe C (some od) := ⟨ha, hz.1, by unfold PySem.W.notCls; rw [hd] <;> rfl, by rw [hz.2]; exact ho⟩
  exact HandSPX.exc_get I1.kIn J T.ga T.gg T.exC (PySem.W.findObj_own T.hdC hno rfl (by rw [hl, hu])) (handed_of ru) ⟨v, H1, I1.tok _, ru, q⟩
end
def FlatL (ys : List V) : Prop := ys.length ≤ 4 ∧ ∀ y ∈ ys, (∃ z, y = V.str z) ∨ ∃ n, y = V.int n
theorem flat_nil : FlatL [] := ⟨Nat.zero_le _, fun y hy => by cases hy⟩
theorem flat_of {ys : List V} (l : ys.length ≤ 4) (h : ys.all (fun y => match y with | .str _ => true | .int _ => true | _ => false) = true) : FlatL ys := ⟨l, fun y hy => by
  have := List.all_eq_true.mp h y hy
  cases y with
  | str z => exact .inl ⟨z, rfl⟩
  | int n => exact .inr ⟨n, rfl⟩
  | _ => cases this⟩
/-! ### copied, and the error that keeps a reason -/
def sp_nil : Sp := fun _ _ _ _ => False
def sp_atom : Sp := fun vs H Q _ => ∃ v : V, vs = [v] ∧ ((∃ z, v = .str z) ∨ ∃ n, v = .int n) ∧ Q v H
def sp_copied : Sp := fun vs H Q _ => ∃ (t : Addr) (ys : List V), vs = [.ref t] ∧ H t = some (.tup ys) ∧ FlatL ys ∧ ∀ H' u, Same H H' → H' u = some (.tup ys) → Q (.ref u) H'
section
variable {P : Program} {w : World} {K : PySem.W.Frag} {mg : Str → Option Value} {base : Heap}
/-! copied: slots 0:value 1:part -/
abbrev s_copied : Stmt := topS 1
theorem sc_copied : FnScope ["value", "part"] ["value"] (defScope s_copied) := ⟨rfl, rfl, rfl, by decide +kernel, rfl, by decide +kernel, by decide +kernel⟩
theorem nil_copied (D : Df K mg "copied" s_copied) : Has P w K mg base 1 "copied" ["value"] sp_nil :=
  has_of D sc_copied (fun _ _ _ _ _ _ us hl => match us, hl with | [_], _ => rfl) (fun _ _ _ _ h => h.elim) (fun _ _ _ _ _ _ _ _ _ _ h => h.elim)
theorem atom_copied (D : Df K mg "copied" s_copied) (T : Tx mg) (G_copied : Has P w K mg base 1 "copied" ["value"] sp_nil) : Has P w K mg base 2 "copied" ["value"] sp_atom := by
  refine has_of D sc_copied (fun _ _ _ _ _ _ us hl => match us, hl with | [_], _ => rfl) (fun vs H Q E h => ?_) (fun f cdv A outer s₀ H vs Q E hr h => ?_)
  · obtain ⟨v, rfl, _⟩ := h
    rfl
  · obtain ⟨v, rfl, hv, q⟩ := h
    refine ⟨_, (pss_cons (ps_if (pt_val (pe_callB call_isi (by rfl) T.n_isinstance (by decide +kernel) (pa_cons (pv 0) (pa_cons (pe_bltn (v := .ty "list") (by rfl) T.n_list (by decide +kernel) rfl) pa_nil)))) (pss_one (ps_ret (pe_lc (own := [("part", 1)]) rfl sc_copied.nd (pi_seqV 0) (blkOk_by (N := ["value", "part"]) (sc := defScope s_copied) (by decide +kernel)) (fun _ _ _ _ _ => (pg_name (i := 1) sc_copied.nd rfl (by first | exact Or.inl rfl | exact Or.inr rfl))) (fun _ _ _ _ _ => pts_nil) (fun _ _ _ _ _ => (pe_callH G_copied (hr.mono (by omega)) (by rfl) (pa_cons (pv 1) pa_nil)))))) pss_nil)
    (pss_cons (ps_if (pt_val (pe_callB call_isi (by rfl) T.n_isinstance (by decide +kernel) (pa_cons (pv 0) (pa_cons (pe_bltn (v := .ty "tuple") (by rfl) T.n_tuple (by decide +kernel) rfl) pa_nil)))) (pss_one (ps_ret (pe_callTy call_tuple_of (by rfl) T.n_tuple (by decide +kernel) (pa_cons (pe_lc (own := [("part", 1)]) rfl sc_copied.nd (pi_seqV 0) (blkOk_by (N := ["value", "part"]) (sc := defScope s_copied) (by decide +kernel)) (fun _ _ _ _ _ => (pg_name (i := 1) sc_copied.nd rfl (by first | exact Or.inl rfl | exact Or.inr rfl))) (fun _ _ _ _ _ => pts_nil) (fun _ _ _ _ _ => (pe_callH G_copied (hr.mono (by omega)) (by rfl) (pa_cons (pv 1) pa_nil)))) pa_nil)))) pss_nil)
    (pss_one (ps_ret (pv 0))))), ?_⟩
    rcases hv with ⟨z, rfl⟩ | ⟨n, rfl⟩
    · exact ⟨_, rfl, _, _, _, _, false, rfl, .ty "list", .base (.str z), kit_ty (by decide +kernel), false, rfl, iteF ⟨_, rfl, _, _, _, _, false, rfl, .ty "tuple", .base (.str z), kit_ty (by decide +kernel), false, rfl, iteF ⟨_, rfl, q⟩⟩⟩
    · exact ⟨_, rfl, _, _, _, _, false, rfl, .ty "list", .base (.int n), kit_ty (by decide +kernel), false, rfl, iteF ⟨_, rfl, _, _, _, _, false, rfl, .ty "tuple", .base (.int n), kit_ty (by decide +kernel), false, rfl, iteF ⟨_, rfl, q⟩⟩⟩
theorem flat_copied (D : Df K mg "copied" s_copied) (T : Tx mg) (G_copied : Has P w K mg base 2 "copied" ["value"] sp_atom) : Has P w K mg base 3 "copied" ["value"] sp_copied := by
  refine has_of D sc_copied (fun _ _ _ _ _ _ us hl => match us, hl with | [_], _ => rfl) (fun vs H Q E h => ?_) (fun f cdv A outer s₀ H vs Q E hr h => ?_)
  · obtain ⟨t, ys, rfl, _⟩ := h
    rfl
  · obtain ⟨t, ys, rfl, ht, fl, q⟩ := h
    refine ⟨_, (pss_cons (ps_if (pt_val (pe_callB call_isi (by rfl) T.n_isinstance (by decide +kernel) (pa_cons (pv 0) (pa_cons (pe_bltn (v := .ty "list") (by rfl) T.n_list (by decide +kernel) rfl) pa_nil)))) (pss_one (ps_ret (pe_lc (own := [("part", 1)]) rfl sc_copied.nd (pi_seqV 0) (blkOk_by (N := ["value", "part"]) (sc := defScope s_copied) (by decide +kernel)) (fun _ _ _ _ _ => (pg_name (i := 1) sc_copied.nd rfl (by first | exact Or.inl rfl | exact Or.inr rfl))) (fun _ _ _ _ _ => pts_nil) (fun _ _ _ _ _ => (pe_callH G_copied (hr.mono (by omega)) (by rfl) (pa_cons (pv 1) pa_nil)))))) pss_nil)
    (pss_cons (ps_if (pt_val (pe_callB call_isi (by rfl) T.n_isinstance (by decide +kernel) (pa_cons (pv 0) (pa_cons (pe_bltn (v := .ty "tuple") (by rfl) T.n_tuple (by decide +kernel) rfl) pa_nil)))) (pss_one (ps_ret (pe_callTy call_tuple_of (by rfl) T.n_tuple (by decide +kernel) (pa_cons (pe_lc (own := [("part", 1)]) rfl sc_copied.nd (pi_seqV 0) (blkOk_by (N := ["value", "part"]) (sc := defScope s_copied) (by decide +kernel)) (fun _ _ _ _ _ => (pg_name (i := 1) sc_copied.nd rfl (by first | exact Or.inl rfl | exact Or.inr rfl))) (fun _ _ _ _ _ => pts_nil) (fun _ _ _ _ _ => (pe_callH G_copied (hr.mono (by omega)) (by rfl) (pa_cons (pv 1) pa_nil)))) pa_nil)))) pss_nil)
    (pss_one (ps_ret (pv 0))))), ?_⟩
    refine ⟨_, rfl, _, _, _, _, false, rfl, .ty "list", .base (.tup ht), kit_ty (by decide +kernel), false, rfl, iteF ⟨_, rfl, _, _, _, _, true, rfl, .ty "tuple", .base (.tup ht), kit_ty (by decide +kernel), true, rfl, iteT ?_⟩⟩
    refine ⟨t, ys, rfl, .inr ht, fun J wk L nL => lc_wk wk (fun i H' => Same H H' ∧ H' L = some (.lst (ys.take i))) (fun _ _ p => p.1) ⟨same_upd nL, upd_same⟩ (fun i x H2 ex p => ?_) (fun H2 p => ?_)⟩
    · obtain ⟨sm, hL⟩ := p
      refine ⟨rfl, yesT ⟨_, rfl, x, rfl, fl.2 x (List.mem_of_getElem? ex), _, hL, ?_, same_grow nL sm, ?_⟩⟩
      · rw [List.length_take]
        have := fl.1
        exact small (by omega)
      · rw [upd_same, take_snoc ex]
    · obtain ⟨sm, hL⟩ := p
      rw [List.take_length] at hL
      exact ⟨L, _, rfl, .inl ⟨.of hL, fun l nl => q _ l (sm.trans (same_upd nl)) upd_same⟩⟩
theorem ok_copied (D : Df K mg "copied" s_copied) (T : Tx mg) : Has P w K mg base 3 "copied" ["value"] sp_copied := flat_copied D T (atom_copied D T (nil_copied D))
abbrev s_iTxt : Stmt := inClass (topS 17) 0
theorem sc_iTxt : FnScope ["self", "index"] ["self", "index"] (defScope s_iTxt) := ⟨rfl, rfl, rfl, by decide +kernel, rfl, by decide +kernel, by decide +kernel⟩
structure TxtF (K : PySem.W.Frag) (mg : Str → Option Value) (C : Addr) : Prop where
  g : mg "InvalidText" = some (.ref C)
  o : OexC K C
  n : PySem.W.findIn K (.ref C) "index" = some none
  x : XfC K C
  i : ∃ (fI : Addr) (fd : FuncData), PySem.W.findIn K (.ref C) "__init__" = some (some (.ref fI)) ∧ PySem.W.typeIn K (.ref fI) = some (.type "function") ∧ Fun K "__init__" "InvalidText.__init__" s_iTxt fI fd
abbrev s_iMan : Stmt := inClass (topS 18) 0
theorem sc_iMan : FnScope ["self", "count"] ["self", "count"] (defScope s_iMan) := ⟨rfl, rfl, rfl, by decide +kernel, rfl, by decide +kernel, by decide +kernel⟩
structure ManF (K : PySem.W.Frag) (mg : Str → Option Value) (C : Addr) : Prop where
  g : mg "TooMany" = some (.ref C)
  o : OexC K C
  n : PySem.W.findIn K (.ref C) "count" = some none
  x : XfC K C
  i : ∃ (fI : Addr) (fd : FuncData), PySem.W.findIn K (.ref C) "__init__" = some (some (.ref fI)) ∧ PySem.W.typeIn K (.ref fI) = some (.type "function") ∧ Fun K "__init__" "TooMany.__init__" s_iMan fI fd
abbrev s_iImp : Stmt := inClass (topS 19) 0
theorem sc_iImp : FnScope ["self", "reason"] ["self", "reason"] (defScope s_iImp) := ⟨rfl, rfl, rfl, by decide +kernel, rfl, by decide +kernel, by decide +kernel⟩
structure ImpF (K : PySem.W.Frag) (mg : Str → Option Value) (C : Addr) : Prop where
  g : mg "Impossible" = some (.ref C)
  o : OexC K C
  n : PySem.W.findIn K (.ref C) "reason" = some none
  x : XfC K C
  i : ∃ (fI : Addr) (fd : FuncData), PySem.W.findIn K (.ref C) "__init__" = some (some (.ref fI)) ∧ PySem.W.typeIn K (.ref fI) = some (.type "function") ∧ Fun K "__init__" "Impossible.__init__" s_iImp fI fd
abbrev s_iCon : Stmt := inClass (topS 20) 0
theorem sc_iCon : FnScope ["self", "conflict"] ["self", "conflict"] (defScope s_iCon) := ⟨rfl, rfl, rfl, by decide +kernel, rfl, by decide +kernel, by decide +kernel⟩
structure ConF (K : PySem.W.Frag) (mg : Str → Option Value) (C : Addr) : Prop where
  g : mg "Contradiction" = some (.ref C)
  o : OexC K C
  n : PySem.W.findIn K (.ref C) "conflict" = some none
  x : XfC K C
  i : ∃ (fI : Addr) (fd : FuncData), PySem.W.findIn K (.ref C) "__init__" = some (some (.ref fI)) ∧ PySem.W.typeIn K (.ref fI) = some (.type "function") ∧ Fun K "__init__" "Contradiction.__init__" s_iCon fI fd
/-- an own __init__ that keeps its value -/
def sp_own (fld : Str) (C : Addr) : Sp := fun vs H Q _ => ∃ (a : Addr) (v : V), vs = [.ref a, v] ∧ H a = some (exo a C none) ∧ ∀ dx, H dx = none → dx ≠ a → Q .non (upd (upd H dx (exd dx [(fld, v)])) a (exo a C (some dx)))
def sp_ownC (fld : Str) (C : Addr) : Sp := fun vs H Q _ => ∃ (a t : Addr) (ys : List V), vs = [.ref a, .ref t] ∧ H a = some (exo a C none) ∧ H t = some (.tup ys) ∧ FlatL ys ∧ ∀ H1 dx u, Same H H1 → H1 dx = none → dx ≠ a → H1 u = some (.tup ys) → Q .non (upd (upd H1 dx (exd dx [(fld, .ref u)])) a (exo a C (some dx)))
theorem ok_iTxt {f C : Addr} {fd : FuncData} (F : Fun K "__init__" "InvalidText.__init__" s_iTxt f fd) (O : OexC K C) (N : PySem.W.findIn K (.ref C) "index" = some none) : FnOk P w K mg base CX0 1 f fd ["self", "index"] (sp_own "index" C) := by
  refine F.ok sc_iTxt (fun vs H Q E h => ?_) (fun cdv A outer s H vs Q E hr h => ?_)
  · obtain ⟨a, n, rfl, _⟩ := h
    rfl
  · obtain ⟨a, n, rfl, ha, q⟩ := h
    refine ⟨_, pss_one (ps_ost (pv 0) (pv 1)), ?_⟩
    exact ⟨_, rfl, _, rfl, a, C, rfl, O, N, .inl ⟨ha, fun dx nd ne => q _ nd ne⟩⟩
theorem ok_iMan {f C : Addr} {fd : FuncData} (F : Fun K "__init__" "TooMany.__init__" s_iMan f fd) (O : OexC K C) (N : PySem.W.findIn K (.ref C) "count" = some none) : FnOk P w K mg base CX0 1 f fd ["self", "count"] (sp_own "count" C) := by
  refine F.ok sc_iMan (fun vs H Q E h => ?_) (fun cdv A outer s H vs Q E hr h => ?_)
  · obtain ⟨a, n, rfl, _⟩ := h
    rfl
  · obtain ⟨a, n, rfl, ha, q⟩ := h
    refine ⟨_, pss_one (ps_ost (pv 0) (pv 1)), ?_⟩
    exact ⟨_, rfl, _, rfl, a, C, rfl, O, N, .inl ⟨ha, fun dx nd ne => q _ nd ne⟩⟩
theorem ok_iImp {f C : Addr} {fd : FuncData} (F : Fun K "__init__" "Impossible.__init__" s_iImp f fd) (O : OexC K C) (N : PySem.W.findIn K (.ref C) "reason" = some none) (G_copied : Has P w K mg base 3 "copied" ["value"] sp_copied) : FnOk P w K mg base CX0 4 f fd ["self", "reason"] (sp_ownC "reason" C) := by
  refine F.ok sc_iImp (fun vs H Q E h => ?_) (fun cdv A outer s H vs Q E hr h => ?_)
  · obtain ⟨a, t, ys, rfl, _⟩ := h
    rfl
  · obtain ⟨a, t, ys, rfl, ha, ht, fl, q⟩ := h
    refine ⟨_, pss_one (ps_ost (pv 0) (pe_callH G_copied (hr.mono (by omega)) (by rfl) (pa_cons (pv 1) pa_nil))), ?_⟩
    refine ⟨_, rfl, t, ys, rfl, ht, fl, fun H1 u s1 hu => ?_⟩
    exact ⟨_, rfl, a, C, rfl, O, N, .inl ⟨s1 _ _ ha, fun dx nd ne => q _ _ _ s1 nd ne hu⟩⟩
theorem ok_iCon {f C : Addr} {fd : FuncData} (F : Fun K "__init__" "Contradiction.__init__" s_iCon f fd) (O : OexC K C) (N : PySem.W.findIn K (.ref C) "conflict" = some none) (G_copied : Has P w K mg base 3 "copied" ["value"] sp_copied) : FnOk P w K mg base CX0 4 f fd ["self", "conflict"] (sp_ownC "conflict" C) := by
  refine F.ok sc_iCon (fun vs H Q E h => ?_) (fun cdv A outer s H vs Q E hr h => ?_)
  · obtain ⟨a, t, ys, rfl, _⟩ := h
    rfl
  · obtain ⟨a, t, ys, rfl, ha, ht, fl, q⟩ := h
    refine ⟨_, pss_one (ps_ost (pv 0) (pe_callH G_copied (hr.mono (by omega)) (by rfl) (pa_cons (pv 1) pa_nil))), ?_⟩
    refine ⟨_, rfl, t, ys, rfl, ht, fl, fun H1 u s1 hu => ?_⟩
    exact ⟨_, rfl, a, C, rfl, O, N, .inl ⟨s1 _ _ ha, fun dx nd ne => q _ _ _ s1 nd ne hu⟩⟩
/-- what a class says: made, it stands there -/
theorem made_same {H1 H2 : Hp} {ex dx : Addr} {C : Addr} {fs : List (Str × V)} {o : HO} (s : Same H1 H2) (na : H1 ex = none) (nd : H2 dx = none) : Same H1 (upd (del (upd (upd H2 dx o) ex (exo ex C (some dx))) ex) dx (.xd fs)) := fun b o' hb => by
  have ba : b ≠ ex := ne_of_none hb na
  have bd : b ≠ dx := ne_of_none (s _ _ hb) nd
  rw [upd_ne bd, del_ne ba, upd_ne ba, upd_ne bd]
  exact s _ _ hb
theorem own_go {H : Hp} {C : Addr} {fld : Str} {v : V} {σ : L2.St} {Q : VK} (q : ∀ H2 a dx, Same H H2 → H2 a = some (ExD (.ref C) (some dx) a) → H2 dx = some (.xd [(fld, v)]) → Q (.ref a) H2) :
    tMkO C (sp_own fld C) [] (fun _ H Q => Q [v] H) σ H (fun cls d H' => ∀ a, H' a = none → Q (.ref a) (upd H' a (ExD cls d a))) := by
  refine ⟨(by show 1 ≤ 1000; decide), fun ex na => ?_⟩
  refine ⟨ex, v, rfl, upd_same, fun dx nd ne => ⟨rfl, dx, _, upd_same, by rw [upd_ne ne, upd_same], (same_upd na).free nd, fun a n => ?_⟩⟩
  have s1 := made_same (fs := [(fld, v)]) (C := C) (o := exd dx [(fld, v)]) (same_upd (o := exo ex C none) na) na nd
  exact q _ a dx (s1.trans (same_upd n)) upd_same (same_upd n _ _ upd_same)
theorem ownC_go {H : Hp} {C t : Addr} {fld : Str} {ys : List V} {σ : L2.St} {Q : VK} (ht : H t = some (.tup ys)) (fl : FlatL ys) (q : ∀ H2 a dx u, Same H H2 → H2 a = some (ExD (.ref C) (some dx) a) → H2 dx = some (.xd [(fld, .ref u)]) → H2 u = some (.tup ys) → Q (.ref a) H2) :
    tMkO C (sp_ownC fld C) [] (fun _ H Q => Q [.ref t] H) σ H (fun cls d H' => ∀ a, H' a = none → Q (.ref a) (upd H' a (ExD cls d a))) := by
  refine ⟨(by show 1 ≤ 1000; decide), fun ex na => ?_⟩
  refine ⟨ex, t, ys, rfl, upd_same, same_upd na _ _ ht, fl, fun H1 dx u s1 nd ne hu => ⟨rfl, dx, _, upd_same, by rw [upd_ne ne, upd_same], ((same_upd na).trans s1).free nd, fun a n => ?_⟩⟩
  have s2 := made_same (fs := [(fld, .ref u)]) (C := C) (o := exd dx [(fld, .ref u)]) ((same_upd (o := exo ex C none) na).trans s1) na nd
  have ux : u ≠ ex := fun z => by
    rw [z, s1 _ _ upd_same] at hu
    cases hu
  have ud : u ≠ dx := ne_of_none hu nd
  refine q _ a dx u (s2.trans (same_upd n)) upd_same (same_upd n _ _ upd_same) (same_upd n _ _ ?_)
  rw [upd_ne ud, del_ne ux, upd_ne ux, upd_ne ud]
  exact hu
end
end UP

set_option Elab.async false
set_option linter.all false
set_option maxRecDepth 100000
set_option maxHeartbeats 40000000
set_option pp.maxSteps 60
namespace UP
open PySem PySem.Spec PyProof.Rows L2
/-- v is an exception of the class nm, kept -/
def EXV (K : PySem.W.Frag) (CA : Str → Addr) (H : Hp) (v : V) (nm : Str) : Prop := ∃ (a : Addr) (d : Option Addr), v = .ref a ∧ H a = some (ExD (.ref (CA nm)) d a) ∧ DOk H d ∧ ClsF K CA nm ∧ nm ∈ six ++ (oddA ++ oddB)
theorem exl_same {K : PySem.W.Frag} {CA : Str → Addr} {H H' : Hp} {vs : List V} {ns : List Str} (s : Same H H') (h : Paired (EXV K CA H) vs ns) : Paired (EXV K CA H') vs ns := Paired.imp (fun v nm ⟨a, d, e, h, k, c, m⟩ => ⟨a, d, e, s _ _ h, k.same s, c, m⟩) h
section
variable {P : Program} {w : World} {K : PySem.W.Frag} {mg : Str → Option Value} {base : Heap}
abbrev s_law_classes_right : Stmt := topS 57
theorem sc_law_classes_right : FnScope ["made", "names", "some", "fields", "one"] [] (defScope s_law_classes_right) := ⟨rfl, rfl, rfl, by decide +kernel, rfl, by decide +kernel, by decide +kernel⟩
def sp_law_classes_right : Sp := fun vs H Q _ => vs = [] ∧ ∀ H', Same H H' → Q (.bl true) H'
theorem ok_law_classes_right {CA : Str → Addr} (D : Df K mg "_law_classes_right" s_law_classes_right) (T : Tx mg) (CM : Cmg mg CA) (X0 : Ex K mg "InvalidSequence" (CA "InvalidSequence")) (F0 : ClsF K CA "InvalidSequence") (X1 : Ex K mg "InvalidState" (CA "InvalidState")) (F1 : ClsF K CA "InvalidState") (X2 : Ex K mg "InvalidPosition" (CA "InvalidPosition")) (F2 : ClsF K CA "InvalidPosition") (X3 : Ex K mg "InvalidNumber" (CA "InvalidNumber")) (F3 : ClsF K CA "InvalidNumber") (X4 : Ex K mg "InvalidItems" (CA "InvalidItems")) (F4 : ClsF K CA "InvalidItems") (X5 : Ex K mg "TooLong" (CA "TooLong")) (F5 : ClsF K CA "TooLong") (X6 : Ex K mg "InvalidKind" (CA "InvalidKind")) (F6 : ClsF K CA "InvalidKind") (X7 : Ex K mg "InvalidKinds" (CA "InvalidKinds")) (F7 : ClsF K CA "InvalidKinds") (X8 : Ex K mg "InvalidEffects" (CA "InvalidEffects")) (F8 : ClsF K CA "InvalidEffects") (X9 : Ex K mg "InvalidCounts" (CA "InvalidCounts")) (F9 : ClsF K CA "InvalidCounts") (X10 : Ex K mg "InvalidRecord" (CA "InvalidRecord")) (F10 : ClsF K CA "InvalidRecord") (X11 : Ex K mg "InvalidCommand" (CA "InvalidCommand")) (F11 : ClsF K CA "InvalidCommand") (X12 : Ex K mg "SameEffect" (CA "SameEffect")) (F12 : ClsF K CA "SameEffect") (X13 : Ex K mg "NothingToUndo" (CA "NothingToUndo")) (F13 : ClsF K CA "NothingToUndo") (ITxt : TxtF K mg (CA "InvalidText")) (FTxt : ClsF K CA "InvalidText") (IMan : ManF K mg (CA "TooMany")) (FMan : ClsF K CA "TooMany") (IImp : ImpF K mg (CA "Impossible")) (FImp : ClsF K CA "Impossible") (ICon : ConF K mg (CA "Contradiction")) (FCon : ClsF K CA "Contradiction") (G_copied : Has P w K mg base 3 "copied" ["value"] sp_copied) (G_law_class : Has P w K mg base 1 "_law_class" ["caught"] (sp_law_class K CA)) : Has P w K mg base 6 "_law_classes_right" [] sp_law_classes_right := by
  refine has_of D sc_law_classes_right (fun _ _ _ _ _ _ us hl => match us, hl with | [], _ => rfl) (fun vs H Q E h => ?_) (fun f cdv A outer s₀ H vs Q E hr h => ?_)
  · obtain ⟨rfl, _⟩ := h
    rfl
  · obtain ⟨rfl, q⟩ := h
    obtain ⟨fITxt, fdTxt, iCTxt, tITxt, FITxt⟩ := ITxt.i
    have F1Txt := ok_iTxt (P := P) (w := w) (mg := mg) (base := base) FITxt ITxt.o ITxt.n
    have b1Txt := FITxt.binds (ps := ["self", "index"]) fun _ _ _ _ _ _ us hl => match us, hl with | [_, _], _ => rfl
    obtain ⟨fIMan, fdMan, iCMan, tIMan, FIMan⟩ := IMan.i
    have F1Man := ok_iMan (P := P) (w := w) (mg := mg) (base := base) FIMan IMan.o IMan.n
    have b1Man := FIMan.binds (ps := ["self", "count"]) fun _ _ _ _ _ _ us hl => match us, hl with | [_, _], _ => rfl
    obtain ⟨fIImp, fdImp, iCImp, tIImp, FIImp⟩ := IImp.i
    have F1Imp := ok_iImp (P := P) (w := w) (mg := mg) (base := base) FIImp IImp.o IImp.n G_copied
    have b1Imp := FIImp.binds (ps := ["self", "reason"]) fun _ _ _ _ _ _ us hl => match us, hl with | [_, _], _ => rfl
    obtain ⟨fICon, fdCon, iCCon, tICon, FICon⟩ := ICon.i
    have F1Con := ok_iCon (P := P) (w := w) (mg := mg) (base := base) FICon ICon.o ICon.n G_copied
    have b1Con := FICon.binds (ps := ["self", "conflict"]) fun _ _ _ _ _ _ us hl => match us, hl with | [_, _], _ => rfl
    refine ⟨_, (pss_cons (ps_set (i := 0) sc_law_classes_right.nd rfl (by first | exact Or.inl rfl | exact Or.inr rfl) (pe_lst (pa_cons (pe_mk rfl (pmk_own PySem.F.excBase_ValueError X0.x X0.g X0.k (raises_own X0.b X0.t) (by exact rfl))) (pa_cons (pe_mk rfl (pmk_own PySem.F.excBase_ValueError X1.x X1.g X1.k (raises_own X1.b X1.t) (by exact rfl))) (pa_cons (pe_mk rfl (pmk_own PySem.F.excBase_ValueError X2.x X2.g X2.k (raises_own X2.b X2.t) (by exact rfl))) (pa_cons (pe_mk rfl (pmk_own PySem.F.excBase_ValueError X3.x X3.g X3.k (raises_own X3.b X3.t) (by exact rfl))) (pa_cons (pe_mk rfl (pmk_own PySem.F.excBase_ValueError X4.x X4.g X4.k (raises_own X4.b X4.t) (by exact rfl))) pa_nil)))))))
    (pss_cons (ps_set (i := 1) sc_law_classes_right.nd rfl (by first | exact Or.inl rfl | exact Or.inr rfl) (pe_lst (pa_cons pe_str (pa_cons pe_str (pa_cons pe_str (pa_cons pe_str (pa_cons pe_str (pa_cons pe_str pa_nil))))))))
    (pss_cons (ps_set (i := 2) sc_law_classes_right.nd rfl (by first | exact Or.inl rfl | exact Or.inr rfl) (pe_lst (pa_cons (pe_mk rfl (pmk_oex ITxt.o iCTxt tITxt F1Txt (hr.mono (by omega)) b1Txt .nil (fun _ _ _ _ _ _ _ h => h.elim) (by rfl) ITxt.g (pa_cons pe_non pa_nil))) (pa_cons (pe_mk rfl (pmk_oex IMan.o iCMan tIMan F1Man (hr.mono (by omega)) b1Man .nil (fun _ _ _ _ _ _ _ h => h.elim) (by rfl) IMan.g (pa_cons pe_int pa_nil))) (pa_cons (pe_mk rfl (pmk_oex IImp.o iCImp tIImp F1Imp (hr.mono (by omega)) b1Imp .nil (fun _ _ _ _ _ _ _ h => h.elim) (by rfl) IImp.g (pa_cons (pe_tup (pa_cons pe_str (pa_cons pe_int pa_nil))) pa_nil))) (pa_cons (pe_mk rfl (pmk_oex ICon.o iCCon tICon F1Con (hr.mono (by omega)) b1Con .nil (fun _ _ _ _ _ _ _ h => h.elim) (by rfl) ICon.g (pa_cons (pe_tup (pa_cons pe_str (pa_cons pe_int pa_nil))) pa_nil))) (pa_cons (pe_mk rfl (pmk_own PySem.F.excBase_ValueError X6.x X6.g X6.k (raises_own X6.b X6.t) (by exact rfl))) pa_nil)))))))
    (pss_cons (ps_set (i := 2) sc_law_classes_right.nd rfl (by first | exact Or.inl rfl | exact Or.inr rfl) (pe_op op_cat (pv 2) (pe_lst (pa_cons (pe_mk rfl (pmk_own PySem.F.excBase_ValueError X7.x X7.g X7.k (raises_own X7.b X7.t) (by exact rfl))) (pa_cons (pe_mk rfl (pmk_own PySem.F.excBase_ValueError X8.x X8.g X8.k (raises_own X8.b X8.t) (by exact rfl))) (pa_cons (pe_mk rfl (pmk_own PySem.F.excBase_ValueError X9.x X9.g X9.k (raises_own X9.b X9.t) (by exact rfl))) (pa_cons (pe_mk rfl (pmk_own PySem.F.excBase_ValueError X10.x X10.g X10.k (raises_own X10.b X10.t) (by exact rfl))) (pa_cons (pe_mk rfl (pmk_own PySem.F.excBase_ValueError X11.x X11.g X11.k (raises_own X11.b X11.t) (by exact rfl))) pa_nil))))))))
    (pss_cons (ps_set (i := 2) sc_law_classes_right.nd rfl (by first | exact Or.inl rfl | exact Or.inr rfl) (pe_op op_cat (pv 2) (pe_lst (pa_cons (pe_mk rfl (pmk_own PySem.F.excBase_ValueError X12.x X12.g X12.k (raises_own X12.b X12.t) (by exact rfl))) (pa_cons (pe_mk rfl (pmk_own PySem.F.excBase_ValueError X13.x X13.g X13.k (raises_own X13.b X13.t) (by exact rfl))) pa_nil)))))
    (pss_cons (ps_set (i := 3) sc_law_classes_right.nd rfl (by first | exact Or.inl rfl | exact Or.inr rfl) (pe_lst (pa_cons (pe_xfT (C := CA "InvalidText") ITxt.x ITxt.n (pe_mk rfl (pmk_oex ITxt.o iCTxt tITxt F1Txt (hr.mono (by omega)) b1Txt .nil (fun _ _ _ _ _ _ _ h => h.elim) (by rfl) ITxt.g (pa_cons pe_int pa_nil)))) (pa_cons (pe_xfT (C := CA "TooMany") IMan.x IMan.n (pe_mk rfl (pmk_oex IMan.o iCMan tIMan F1Man (hr.mono (by omega)) b1Man .nil (fun _ _ _ _ _ _ _ h => h.elim) (by rfl) IMan.g (pa_cons pe_int pa_nil)))) (pa_cons (pe_xfT (C := CA "Impossible") IImp.x IImp.n (pe_mk rfl (pmk_oex IImp.o iCImp tIImp F1Imp (hr.mono (by omega)) b1Imp .nil (fun _ _ _ _ _ _ _ h => h.elim) (by rfl) IImp.g (pa_cons (pe_tup (pa_cons pe_str (pa_cons pe_int pa_nil))) pa_nil)))) pa_nil)))))
    (pss_cons (ps_expr (pe_bm PySem.F.plainAttrs_list PySem.F.slot_list_append PySem.F.type_list_append mt_append (pv 3) (pa_cons (pe_xfT (C := CA "Contradiction") ICon.x ICon.n (pe_mk rfl (pmk_oex ICon.o iCCon tICon F1Con (hr.mono (by omega)) b1Con .nil (fun _ _ _ _ _ _ _ h => h.elim) (by rfl) ICon.g (pa_cons (pe_tup (pa_cons pe_str (pa_cons pe_int pa_nil))) pa_nil)))) pa_nil)))
    (pss_cons (ps_if (PW.pt (pw_or (pt_cmpR (op_neD hr.units) (pe_lc (own := [("one", 4)]) rfl sc_law_classes_right.nd (pi_list (pe_op op_cat (pv 0) (pe_lst (pa_cons (pe_mk rfl (pmk_own PySem.F.excBase_ValueError X5.x X5.g X5.k (raises_own X5.b X5.t) (by exact rfl))) pa_nil)))) (blkOk_by (N := ["made", "names", "some", "fields", "one"]) (sc := defScope s_law_classes_right) (by decide +kernel)) (fun _ _ _ _ _ => (pg_name (i := 4) sc_law_classes_right.nd rfl (by first | exact Or.inl rfl | exact Or.inr rfl))) (fun _ _ _ _ _ => pts_nil) (fun _ _ _ _ _ => (pe_callH G_law_class (hr.mono (by omega)) (by rfl) (pa_cons (pv 4) pa_nil)))) (pv 1) (nomark _)) (pw_or1 (pt_cmpR (op_neD hr.units) (pe_lc (own := [("one", 4)]) rfl sc_law_classes_right.nd (pi_list (pv 2)) (blkOk_by (N := ["made", "names", "some", "fields", "one"]) (sc := defScope s_law_classes_right) (by decide +kernel)) (fun _ _ _ _ _ => (pg_name (i := 4) sc_law_classes_right.nd rfl (by first | exact Or.inl rfl | exact Or.inr rfl))) (fun _ _ _ _ _ => pts_nil) (fun _ _ _ _ _ => (pe_callH G_law_class (hr.mono (by omega)) (by rfl) (pa_cons (pv 4) pa_nil)))) (pe_op op_rep (pe_lst (pa_cons pe_str pa_nil)) pe_int) (nomark _))))) (pss_one (ps_ret pe_bl)) pss_nil)
    (pss_one (ps_ret (pe_and (pe_cmpR (op_eqD hr.units) (pv 3) (pe_lst (pa_cons pe_int (pa_cons pe_int (pa_cons (pe_tup (pa_cons pe_str (pa_cons pe_int pa_nil))) (pa_cons (pe_tup (pa_cons pe_str (pa_cons pe_int pa_nil))) pa_nil))))) (nomark _)) (pe_one (pe_cmpR op_isN (pe_xfT (C := CA "InvalidText") ITxt.x ITxt.n (pe_mk rfl (pmk_oex ITxt.o iCTxt tITxt F1Txt (hr.mono (by omega)) b1Txt .nil (fun _ _ _ _ _ _ _ h => h.elim) (by rfl) ITxt.g (pa_cons pe_non pa_nil)))) pe_non (nomark _)))))))))))))), ?_⟩
    have sA : Same H H := Same.refl _
    have pM : Paired (EXV K CA H) [] [] := .nil
    refine fun aG1 na => ?_
    have sN := same_upd (o := ExD (.ref (CA "InvalidSequence")) none aG1) na
    have hv : (upd H aG1 (ExD (.ref (CA "InvalidSequence")) none aG1)) aG1 = some (ExD (.ref (CA "InvalidSequence")) none aG1) := upd_same
    obtain ⟨G1, eH⟩ : ∃ Hx, upd H aG1 (ExD (.ref (CA "InvalidSequence")) none aG1) = Hx := ⟨_, rfl⟩
    rw [eH] at sN hv ⊢
    clear eH na
    have sA := sA.trans sN
    have pM := exl_same sN pM
    clear sN
    have pM := Paired.app pM (.cons (a := V.ref aG1) (b := ("InvalidSequence" : Str)) ⟨aG1, none, rfl, hv, dok_none, F0, by decide +kernel⟩ .nil)
    clear hv
    refine fun aG2 na => ?_
    have sN := same_upd (o := ExD (.ref (CA "InvalidState")) none aG2) na
    have hv : (upd G1 aG2 (ExD (.ref (CA "InvalidState")) none aG2)) aG2 = some (ExD (.ref (CA "InvalidState")) none aG2) := upd_same
    obtain ⟨G2, eH⟩ : ∃ Hx, upd G1 aG2 (ExD (.ref (CA "InvalidState")) none aG2) = Hx := ⟨_, rfl⟩
    rw [eH] at sN hv ⊢
    clear eH na
    have sA := sA.trans sN
    have pM := exl_same sN pM
    clear sN
    have pM := Paired.app pM (.cons (a := V.ref aG2) (b := ("InvalidState" : Str)) ⟨aG2, none, rfl, hv, dok_none, F1, by decide +kernel⟩ .nil)
    clear hv
    refine fun aG3 na => ?_
    have sN := same_upd (o := ExD (.ref (CA "InvalidPosition")) none aG3) na
    have hv : (upd G2 aG3 (ExD (.ref (CA "InvalidPosition")) none aG3)) aG3 = some (ExD (.ref (CA "InvalidPosition")) none aG3) := upd_same
    obtain ⟨G3, eH⟩ : ∃ Hx, upd G2 aG3 (ExD (.ref (CA "InvalidPosition")) none aG3) = Hx := ⟨_, rfl⟩
    rw [eH] at sN hv ⊢
    clear eH na
    have sA := sA.trans sN
    have pM := exl_same sN pM
    clear sN
    have pM := Paired.app pM (.cons (a := V.ref aG3) (b := ("InvalidPosition" : Str)) ⟨aG3, none, rfl, hv, dok_none, F2, by decide +kernel⟩ .nil)
    clear hv
    refine fun aG4 na => ?_
    have sN := same_upd (o := ExD (.ref (CA "InvalidNumber")) none aG4) na
    have hv : (upd G3 aG4 (ExD (.ref (CA "InvalidNumber")) none aG4)) aG4 = some (ExD (.ref (CA "InvalidNumber")) none aG4) := upd_same
    obtain ⟨G4, eH⟩ : ∃ Hx, upd G3 aG4 (ExD (.ref (CA "InvalidNumber")) none aG4) = Hx := ⟨_, rfl⟩
    rw [eH] at sN hv ⊢
    clear eH na
    have sA := sA.trans sN
    have pM := exl_same sN pM
    clear sN
    have pM := Paired.app pM (.cons (a := V.ref aG4) (b := ("InvalidNumber" : Str)) ⟨aG4, none, rfl, hv, dok_none, F3, by decide +kernel⟩ .nil)
    clear hv
    refine fun aG5 na => ?_
    have sN := same_upd (o := ExD (.ref (CA "InvalidItems")) none aG5) na
    have hv : (upd G4 aG5 (ExD (.ref (CA "InvalidItems")) none aG5)) aG5 = some (ExD (.ref (CA "InvalidItems")) none aG5) := upd_same
    obtain ⟨G5, eH⟩ : ∃ Hx, upd G4 aG5 (ExD (.ref (CA "InvalidItems")) none aG5) = Hx := ⟨_, rfl⟩
    rw [eH] at sN hv ⊢
    clear eH na
    have sA := sA.trans sN
    have pM := exl_same sN pM
    clear sN
    have pM := Paired.app pM (.cons (a := V.ref aG5) (b := ("InvalidItems" : Str)) ⟨aG5, none, rfl, hv, dok_none, F4, by decide +kernel⟩ .nil)
    clear hv
    refine ⟨(by show 5 ≤ sizeLine; decide), fun LG6 nL => ?_⟩
    have sN := same_upd (o := .lst [V.ref aG1, V.ref aG2, V.ref aG3, V.ref aG4, V.ref aG5]) nL
    have hM : (upd G5 LG6 (.lst [V.ref aG1, V.ref aG2, V.ref aG3, V.ref aG4, V.ref aG5])) LG6 = some (.lst [V.ref aG1, V.ref aG2, V.ref aG3, V.ref aG4, V.ref aG5]) := upd_same
    obtain ⟨G6, eH⟩ : ∃ Hx, upd G5 LG6 (.lst [V.ref aG1, V.ref aG2, V.ref aG3, V.ref aG4, V.ref aG5]) = Hx := ⟨_, rfl⟩
    rw [eH] at sN hM ⊢
    clear eH nL
    have sA := sA.trans sN
    have pM := exl_same sN pM
    clear sN
    refine ⟨(by show 6 ≤ sizeLine; decide), fun LG7 nL => ?_⟩
    have sN := same_upd (o := .lst [V.str "InvalidSequence", .str "InvalidState", .str "InvalidPosition", .str "InvalidNumber", .str "InvalidItems", .str "TooLong"]) nL
    have hN : (upd G6 LG7 (.lst [V.str "InvalidSequence", .str "InvalidState", .str "InvalidPosition", .str "InvalidNumber", .str "InvalidItems", .str "TooLong"])) LG7 = some (.lst [V.str "InvalidSequence", .str "InvalidState", .str "InvalidPosition", .str "InvalidNumber", .str "InvalidItems", .str "TooLong"]) := upd_same
    obtain ⟨G7, eH⟩ : ∃ Hx, upd G6 LG7 (.lst [V.str "InvalidSequence", .str "InvalidState", .str "InvalidPosition", .str "InvalidNumber", .str "InvalidItems", .str "TooLong"]) = Hx := ⟨_, rfl⟩
    rw [eH] at sN hN ⊢
    clear eH nL
    have sA := sA.trans sN
    have pM := exl_same sN pM
    have hM := sN _ _ hM
    clear sN
    have pS : Paired (EXV K CA G7) [] [] := .nil
    refine ⟨(by show 1 ≤ 1000; decide), fun ex na => ?_⟩
    refine ⟨ex, .non, rfl, upd_same, fun dx nd ne => ⟨rfl, dx, _, upd_same, by rw [upd_ne ne, upd_same], (same_upd na).free nd, fun aG8 nn => ?_⟩⟩
    have s1 := made_same (fs := [("index", .non)]) (C := (CA "InvalidText")) (o := exd dx [("index", .non)]) (same_upd (o := exo ex (CA "InvalidText") none) na) na nd
    have sN := s1.trans (same_upd (o := ExD (.ref (CA "InvalidText")) (some dx) aG8) nn)
    have hd := same_upd (o := ExD (.ref (CA "InvalidText")) (some dx) aG8) nn dx _ upd_same
    have hv : (upd (upd (del (upd (upd (upd G7 ex (exo ex (CA "InvalidText") none)) dx (exd dx [("index", .non)])) ex (exo ex (CA "InvalidText") (some dx))) ex) dx (.xd [("index", .non)])) aG8 (ExD (.ref (CA "InvalidText")) (some dx) aG8)) aG8 = some (ExD (.ref (CA "InvalidText")) (some dx) aG8) := upd_same
    obtain ⟨G8, eH⟩ : ∃ Hx, upd (upd (del (upd (upd (upd G7 ex (exo ex (CA "InvalidText") none)) dx (exd dx [("index", .non)])) ex (exo ex (CA "InvalidText") (some dx))) ex) dx (.xd [("index", .non)])) aG8 (ExD (.ref (CA "InvalidText")) (some dx) aG8) = Hx := ⟨_, rfl⟩
    rw [eH] at sN hv hd ⊢
    clear eH s1 nd ne nn na
    have sA := sA.trans sN
    have pM := exl_same sN pM
    have hM := sN _ _ hM
    have hN := sN _ _ hN
    have pS := exl_same sN pS
    clear sN
    have pS := Paired.app pS (.cons (a := V.ref aG8) (b := ("InvalidText" : Str)) ⟨aG8, some dx, rfl, hv, fun _ e => by cases e; exact ⟨_, hd⟩, FTxt, by decide +kernel⟩ .nil)
    clear hv hd
    refine ⟨(by show 1 ≤ 1000; decide), fun ex na => ?_⟩
    refine ⟨ex, .int 5, rfl, upd_same, fun dx nd ne => ⟨rfl, dx, _, upd_same, by rw [upd_ne ne, upd_same], (same_upd na).free nd, fun aG9 nn => ?_⟩⟩
    have s1 := made_same (fs := [("count", .int 5)]) (C := (CA "TooMany")) (o := exd dx [("count", .int 5)]) (same_upd (o := exo ex (CA "TooMany") none) na) na nd
    have sN := s1.trans (same_upd (o := ExD (.ref (CA "TooMany")) (some dx) aG9) nn)
    have hd := same_upd (o := ExD (.ref (CA "TooMany")) (some dx) aG9) nn dx _ upd_same
    have hv : (upd (upd (del (upd (upd (upd G8 ex (exo ex (CA "TooMany") none)) dx (exd dx [("count", .int 5)])) ex (exo ex (CA "TooMany") (some dx))) ex) dx (.xd [("count", .int 5)])) aG9 (ExD (.ref (CA "TooMany")) (some dx) aG9)) aG9 = some (ExD (.ref (CA "TooMany")) (some dx) aG9) := upd_same
    obtain ⟨G9, eH⟩ : ∃ Hx, upd (upd (del (upd (upd (upd G8 ex (exo ex (CA "TooMany") none)) dx (exd dx [("count", .int 5)])) ex (exo ex (CA "TooMany") (some dx))) ex) dx (.xd [("count", .int 5)])) aG9 (ExD (.ref (CA "TooMany")) (some dx) aG9) = Hx := ⟨_, rfl⟩
    rw [eH] at sN hv hd ⊢
    clear eH s1 nd ne nn na
    have sA := sA.trans sN
    have pM := exl_same sN pM
    have hM := sN _ _ hM
    have hN := sN _ _ hN
    have pS := exl_same sN pS
    clear sN
    have pS := Paired.app pS (.cons (a := V.ref aG9) (b := ("TooMany" : Str)) ⟨aG9, some dx, rfl, hv, fun _ e => by cases e; exact ⟨_, hd⟩, FMan, by decide +kernel⟩ .nil)
    clear hv hd
    refine ⟨(by show 2 ≤ sizeLine; decide), fun tG10 nt => ?_⟩
    have sN := same_upd (o := .tup [.str "few", .int 2]) nt
    have ht : (upd G9 tG10 (.tup [.str "few", .int 2])) tG10 = some (.tup [.str "few", .int 2]) := upd_same
    obtain ⟨G10, eH⟩ : ∃ Hx, upd G9 tG10 (.tup [.str "few", .int 2]) = Hx := ⟨_, rfl⟩
    rw [eH] at sN ht ⊢
    clear eH nt
    have sA := sA.trans sN
    have pM := exl_same sN pM
    have hM := sN _ _ hM
    have hN := sN _ _ hN
    have pS := exl_same sN pS
    clear sN
    refine ⟨(by show 1 ≤ 1000; decide), fun ex na => ?_⟩
    refine ⟨ex, tG10, _, rfl, upd_same, same_upd na _ _ ht, flat_of (by decide) (by decide), fun Hc dx uG11 s1 nd ne hu0 => ⟨rfl, dx, _, upd_same, by rw [upd_ne ne, upd_same], ((same_upd na).trans s1).free nd, fun aG11 nn => ?_⟩⟩
    have s2 := made_same (fs := [("reason", .ref uG11)]) (C := (CA "Impossible")) (o := exd dx [("reason", .ref uG11)]) ((same_upd (o := exo ex (CA "Impossible") none) na).trans s1) na nd
    have ux : uG11 ≠ ex := fun z => by
      rw [z, s1 _ _ upd_same] at hu0
      cases hu0
    have ud : uG11 ≠ dx := ne_of_none hu0 nd
    have sN := s2.trans (same_upd (o := ExD (.ref (CA "Impossible")) (some dx) aG11) nn)
    have hd := same_upd (o := ExD (.ref (CA "Impossible")) (some dx) aG11) nn dx _ upd_same
    have hv : (upd (upd (del (upd (upd Hc dx (exd dx [("reason", .ref uG11)])) ex (exo ex (CA "Impossible") (some dx))) ex) dx (.xd [("reason", .ref uG11)])) aG11 (ExD (.ref (CA "Impossible")) (some dx) aG11)) aG11 = some (ExD (.ref (CA "Impossible")) (some dx) aG11) := upd_same
    have hu : (upd (upd (del (upd (upd Hc dx (exd dx [("reason", .ref uG11)])) ex (exo ex (CA "Impossible") (some dx))) ex) dx (.xd [("reason", .ref uG11)])) aG11 (ExD (.ref (CA "Impossible")) (some dx) aG11)) uG11 = some (.tup [.str "few", .int 2]) := same_upd nn _ _ (by rw [upd_ne ud, del_ne ux, upd_ne ux, upd_ne ud]; exact hu0)
    obtain ⟨G11, eH⟩ : ∃ Hx, upd (upd (del (upd (upd Hc dx (exd dx [("reason", .ref uG11)])) ex (exo ex (CA "Impossible") (some dx))) ex) dx (.xd [("reason", .ref uG11)])) aG11 (ExD (.ref (CA "Impossible")) (some dx) aG11) = Hx := ⟨_, rfl⟩
    rw [eH] at sN hv hd hu ⊢
    clear eH s1 s2 nd ne nn na ux ud hu0 ht
    have sA := sA.trans sN
    have pM := exl_same sN pM
    have hM := sN _ _ hM
    have hN := sN _ _ hN
    have pS := exl_same sN pS
    clear sN
    have pS := Paired.app pS (.cons (a := V.ref aG11) (b := ("Impossible" : Str)) ⟨aG11, some dx, rfl, hv, fun _ e => by cases e; exact ⟨_, hd⟩, FImp, by decide +kernel⟩ .nil)
    clear hv hd hu
    refine ⟨(by show 2 ≤ sizeLine; decide), fun tG12 nt => ?_⟩
    have sN := same_upd (o := .tup [.str "level", .int 0]) nt
    have ht : (upd G11 tG12 (.tup [.str "level", .int 0])) tG12 = some (.tup [.str "level", .int 0]) := upd_same
    obtain ⟨G12, eH⟩ : ∃ Hx, upd G11 tG12 (.tup [.str "level", .int 0]) = Hx := ⟨_, rfl⟩
    rw [eH] at sN ht ⊢
    clear eH nt
    have sA := sA.trans sN
    have pM := exl_same sN pM
    have hM := sN _ _ hM
    have hN := sN _ _ hN
    have pS := exl_same sN pS
    clear sN
    refine ⟨(by show 1 ≤ 1000; decide), fun ex na => ?_⟩
    refine ⟨ex, tG12, _, rfl, upd_same, same_upd na _ _ ht, flat_of (by decide) (by decide), fun Hc dx uG13 s1 nd ne hu0 => ⟨rfl, dx, _, upd_same, by rw [upd_ne ne, upd_same], ((same_upd na).trans s1).free nd, fun aG13 nn => ?_⟩⟩
    have s2 := made_same (fs := [("conflict", .ref uG13)]) (C := (CA "Contradiction")) (o := exd dx [("conflict", .ref uG13)]) ((same_upd (o := exo ex (CA "Contradiction") none) na).trans s1) na nd
    have ux : uG13 ≠ ex := fun z => by
      rw [z, s1 _ _ upd_same] at hu0
      cases hu0
    have ud : uG13 ≠ dx := ne_of_none hu0 nd
    have sN := s2.trans (same_upd (o := ExD (.ref (CA "Contradiction")) (some dx) aG13) nn)
    have hd := same_upd (o := ExD (.ref (CA "Contradiction")) (some dx) aG13) nn dx _ upd_same
    have hv : (upd (upd (del (upd (upd Hc dx (exd dx [("conflict", .ref uG13)])) ex (exo ex (CA "Contradiction") (some dx))) ex) dx (.xd [("conflict", .ref uG13)])) aG13 (ExD (.ref (CA "Contradiction")) (some dx) aG13)) aG13 = some (ExD (.ref (CA "Contradiction")) (some dx) aG13) := upd_same
    have hu : (upd (upd (del (upd (upd Hc dx (exd dx [("conflict", .ref uG13)])) ex (exo ex (CA "Contradiction") (some dx))) ex) dx (.xd [("conflict", .ref uG13)])) aG13 (ExD (.ref (CA "Contradiction")) (some dx) aG13)) uG13 = some (.tup [.str "level", .int 0]) := same_upd nn _ _ (by rw [upd_ne ud, del_ne ux, upd_ne ux, upd_ne ud]; exact hu0)
    obtain ⟨G13, eH⟩ : ∃ Hx, upd (upd (del (upd (upd Hc dx (exd dx [("conflict", .ref uG13)])) ex (exo ex (CA "Contradiction") (some dx))) ex) dx (.xd [("conflict", .ref uG13)])) aG13 (ExD (.ref (CA "Contradiction")) (some dx) aG13) = Hx := ⟨_, rfl⟩
    rw [eH] at sN hv hd hu ⊢
    clear eH s1 s2 nd ne nn na ux ud hu0 ht
    have sA := sA.trans sN
    have pM := exl_same sN pM
    have hM := sN _ _ hM
    have hN := sN _ _ hN
    have pS := exl_same sN pS
    clear sN
    have pS := Paired.app pS (.cons (a := V.ref aG13) (b := ("Contradiction" : Str)) ⟨aG13, some dx, rfl, hv, fun _ e => by cases e; exact ⟨_, hd⟩, FCon, by decide +kernel⟩ .nil)
    clear hv hd hu
    refine fun aG14 na => ?_
    have sN := same_upd (o := ExD (.ref (CA "InvalidKind")) none aG14) na
    have hv : (upd G13 aG14 (ExD (.ref (CA "InvalidKind")) none aG14)) aG14 = some (ExD (.ref (CA "InvalidKind")) none aG14) := upd_same
    obtain ⟨G14, eH⟩ : ∃ Hx, upd G13 aG14 (ExD (.ref (CA "InvalidKind")) none aG14) = Hx := ⟨_, rfl⟩
    rw [eH] at sN hv ⊢
    clear eH na
    have sA := sA.trans sN
    have pM := exl_same sN pM
    have hM := sN _ _ hM
    have hN := sN _ _ hN
    have pS := exl_same sN pS
    clear sN
    have pS := Paired.app pS (.cons (a := V.ref aG14) (b := ("InvalidKind" : Str)) ⟨aG14, none, rfl, hv, dok_none, F6, by decide +kernel⟩ .nil)
    clear hv
    refine ⟨(by show 5 ≤ sizeLine; decide), fun LG15 nL => ?_⟩
    have sN := same_upd (o := .lst [V.ref aG8, V.ref aG9, V.ref aG11, V.ref aG13, V.ref aG14]) nL
    have hS : (upd G14 LG15 (.lst [V.ref aG8, V.ref aG9, V.ref aG11, V.ref aG13, V.ref aG14])) LG15 = some (.lst [V.ref aG8, V.ref aG9, V.ref aG11, V.ref aG13, V.ref aG14]) := upd_same
    obtain ⟨G15, eH⟩ : ∃ Hx, upd G14 LG15 (.lst [V.ref aG8, V.ref aG9, V.ref aG11, V.ref aG13, V.ref aG14]) = Hx := ⟨_, rfl⟩
    rw [eH] at sN hS ⊢
    clear eH nL
    have sA := sA.trans sN
    have pM := exl_same sN pM
    have hM := sN _ _ hM
    have hN := sN _ _ hN
    have pS := exl_same sN pS
    clear sN
    refine ⟨_, rfl, ?_⟩
    refine fun aG16 na => ?_
    have sN := same_upd (o := ExD (.ref (CA "InvalidKinds")) none aG16) na
    have hv : (upd G15 aG16 (ExD (.ref (CA "InvalidKinds")) none aG16)) aG16 = some (ExD (.ref (CA "InvalidKinds")) none aG16) := upd_same
    obtain ⟨G16, eH⟩ : ∃ Hx, upd G15 aG16 (ExD (.ref (CA "InvalidKinds")) none aG16) = Hx := ⟨_, rfl⟩
    rw [eH] at sN hv ⊢
    clear eH na
    have sA := sA.trans sN
    have pM := exl_same sN pM
    have hM := sN _ _ hM
    have hN := sN _ _ hN
    have pS := exl_same sN pS
    have hS := sN _ _ hS
    clear sN
    have pS := Paired.app pS (.cons (a := V.ref aG16) (b := ("InvalidKinds" : Str)) ⟨aG16, none, rfl, hv, dok_none, F7, by decide +kernel⟩ .nil)
    clear hv
    refine fun aG17 na => ?_
    have sN := same_upd (o := ExD (.ref (CA "InvalidEffects")) none aG17) na
    have hv : (upd G16 aG17 (ExD (.ref (CA "InvalidEffects")) none aG17)) aG17 = some (ExD (.ref (CA "InvalidEffects")) none aG17) := upd_same
    obtain ⟨G17, eH⟩ : ∃ Hx, upd G16 aG17 (ExD (.ref (CA "InvalidEffects")) none aG17) = Hx := ⟨_, rfl⟩
    rw [eH] at sN hv ⊢
    clear eH na
    have sA := sA.trans sN
    have pM := exl_same sN pM
    have hM := sN _ _ hM
    have hN := sN _ _ hN
    have pS := exl_same sN pS
    have hS := sN _ _ hS
    clear sN
    have pS := Paired.app pS (.cons (a := V.ref aG17) (b := ("InvalidEffects" : Str)) ⟨aG17, none, rfl, hv, dok_none, F8, by decide +kernel⟩ .nil)
    clear hv
    refine fun aG18 na => ?_
    have sN := same_upd (o := ExD (.ref (CA "InvalidCounts")) none aG18) na
    have hv : (upd G17 aG18 (ExD (.ref (CA "InvalidCounts")) none aG18)) aG18 = some (ExD (.ref (CA "InvalidCounts")) none aG18) := upd_same
    obtain ⟨G18, eH⟩ : ∃ Hx, upd G17 aG18 (ExD (.ref (CA "InvalidCounts")) none aG18) = Hx := ⟨_, rfl⟩
    rw [eH] at sN hv ⊢
    clear eH na
    have sA := sA.trans sN
    have pM := exl_same sN pM
    have hM := sN _ _ hM
    have hN := sN _ _ hN
    have pS := exl_same sN pS
    have hS := sN _ _ hS
    clear sN
    have pS := Paired.app pS (.cons (a := V.ref aG18) (b := ("InvalidCounts" : Str)) ⟨aG18, none, rfl, hv, dok_none, F9, by decide +kernel⟩ .nil)
    clear hv
    refine fun aG19 na => ?_
    have sN := same_upd (o := ExD (.ref (CA "InvalidRecord")) none aG19) na
    have hv : (upd G18 aG19 (ExD (.ref (CA "InvalidRecord")) none aG19)) aG19 = some (ExD (.ref (CA "InvalidRecord")) none aG19) := upd_same
    obtain ⟨G19, eH⟩ : ∃ Hx, upd G18 aG19 (ExD (.ref (CA "InvalidRecord")) none aG19) = Hx := ⟨_, rfl⟩
    rw [eH] at sN hv ⊢
    clear eH na
    have sA := sA.trans sN
    have pM := exl_same sN pM
    have hM := sN _ _ hM
    have hN := sN _ _ hN
    have pS := exl_same sN pS
    have hS := sN _ _ hS
    clear sN
    have pS := Paired.app pS (.cons (a := V.ref aG19) (b := ("InvalidRecord" : Str)) ⟨aG19, none, rfl, hv, dok_none, F10, by decide +kernel⟩ .nil)
    clear hv
    refine fun aG20 na => ?_
    have sN := same_upd (o := ExD (.ref (CA "InvalidCommand")) none aG20) na
    have hv : (upd G19 aG20 (ExD (.ref (CA "InvalidCommand")) none aG20)) aG20 = some (ExD (.ref (CA "InvalidCommand")) none aG20) := upd_same
    obtain ⟨G20, eH⟩ : ∃ Hx, upd G19 aG20 (ExD (.ref (CA "InvalidCommand")) none aG20) = Hx := ⟨_, rfl⟩
    rw [eH] at sN hv ⊢
    clear eH na
    have sA := sA.trans sN
    have pM := exl_same sN pM
    have hM := sN _ _ hM
    have hN := sN _ _ hN
    have pS := exl_same sN pS
    have hS := sN _ _ hS
    clear sN
    have pS := Paired.app pS (.cons (a := V.ref aG20) (b := ("InvalidCommand" : Str)) ⟨aG20, none, rfl, hv, dok_none, F11, by decide +kernel⟩ .nil)
    clear hv
    refine ⟨(by show 5 ≤ sizeLine; decide), fun LG21 nL => ?_⟩
    have sN := same_upd (o := .lst [V.ref aG16, V.ref aG17, V.ref aG18, V.ref aG19, V.ref aG20]) nL
    have hT : (upd G20 LG21 (.lst [V.ref aG16, V.ref aG17, V.ref aG18, V.ref aG19, V.ref aG20])) LG21 = some (.lst [V.ref aG16, V.ref aG17, V.ref aG18, V.ref aG19, V.ref aG20]) := upd_same
    obtain ⟨G21, eH⟩ : ∃ Hx, upd G20 LG21 (.lst [V.ref aG16, V.ref aG17, V.ref aG18, V.ref aG19, V.ref aG20]) = Hx := ⟨_, rfl⟩
    rw [eH] at sN hT ⊢
    clear eH nL
    have sA := sA.trans sN
    have pM := exl_same sN pM
    have hM := sN _ _ hM
    have hN := sN _ _ hN
    have pS := exl_same sN pS
    have hS := sN _ _ hS
    clear sN
    refine ⟨LG15, LG21, _, _, rfl, rfl, hS, hT, smallE (Nat.le_of_ble_eq_true rfl), fun pG22 nL => ?_⟩
    have sN := same_upd (o := .lst ([V.ref aG8, V.ref aG9, V.ref aG11, V.ref aG13, V.ref aG14] ++ [V.ref aG16, V.ref aG17, V.ref aG18, V.ref aG19, V.ref aG20])) nL
    have hU : (upd G21 pG22 (.lst ([V.ref aG8, V.ref aG9, V.ref aG11, V.ref aG13, V.ref aG14] ++ [V.ref aG16, V.ref aG17, V.ref aG18, V.ref aG19, V.ref aG20]))) pG22 = some (.lst ([V.ref aG8, V.ref aG9, V.ref aG11, V.ref aG13, V.ref aG14] ++ [V.ref aG16, V.ref aG17, V.ref aG18, V.ref aG19, V.ref aG20])) := upd_same
    obtain ⟨G22, eH⟩ : ∃ Hx, upd G21 pG22 (.lst ([V.ref aG8, V.ref aG9, V.ref aG11, V.ref aG13, V.ref aG14] ++ [V.ref aG16, V.ref aG17, V.ref aG18, V.ref aG19, V.ref aG20])) = Hx := ⟨_, rfl⟩
    rw [eH] at sN hU ⊢
    clear eH nL
    have sA := sA.trans sN
    have pM := exl_same sN pM
    have hM := sN _ _ hM
    have hN := sN _ _ hN
    have pS := exl_same sN pS
    have hS := sN _ _ hS
    have hT := sN _ _ hT
    clear sN
    have hS := hU
    clear hU hT
    refine ⟨_, rfl, ?_⟩
    refine fun aG23 na => ?_
    have sN := same_upd (o := ExD (.ref (CA "SameEffect")) none aG23) na
    have hv : (upd G22 aG23 (ExD (.ref (CA "SameEffect")) none aG23)) aG23 = some (ExD (.ref (CA "SameEffect")) none aG23) := upd_same
    obtain ⟨G23, eH⟩ : ∃ Hx, upd G22 aG23 (ExD (.ref (CA "SameEffect")) none aG23) = Hx := ⟨_, rfl⟩
    rw [eH] at sN hv ⊢
    clear eH na
    have sA := sA.trans sN
    have pM := exl_same sN pM
    have hM := sN _ _ hM
    have hN := sN _ _ hN
    have pS := exl_same sN pS
    have hS := sN _ _ hS
    clear sN
    have pS := Paired.app pS (.cons (a := V.ref aG23) (b := ("SameEffect" : Str)) ⟨aG23, none, rfl, hv, dok_none, F12, by decide +kernel⟩ .nil)
    clear hv
    refine fun aG24 na => ?_
    have sN := same_upd (o := ExD (.ref (CA "NothingToUndo")) none aG24) na
    have hv : (upd G23 aG24 (ExD (.ref (CA "NothingToUndo")) none aG24)) aG24 = some (ExD (.ref (CA "NothingToUndo")) none aG24) := upd_same
    obtain ⟨G24, eH⟩ : ∃ Hx, upd G23 aG24 (ExD (.ref (CA "NothingToUndo")) none aG24) = Hx := ⟨_, rfl⟩
    rw [eH] at sN hv ⊢
    clear eH na
    have sA := sA.trans sN
    have pM := exl_same sN pM
    have hM := sN _ _ hM
    have hN := sN _ _ hN
    have pS := exl_same sN pS
    have hS := sN _ _ hS
    clear sN
    have pS := Paired.app pS (.cons (a := V.ref aG24) (b := ("NothingToUndo" : Str)) ⟨aG24, none, rfl, hv, dok_none, F13, by decide +kernel⟩ .nil)
    clear hv
    refine ⟨(by show 2 ≤ sizeLine; decide), fun LG25 nL => ?_⟩
    have sN := same_upd (o := .lst [V.ref aG23, V.ref aG24]) nL
    have hT : (upd G24 LG25 (.lst [V.ref aG23, V.ref aG24])) LG25 = some (.lst [V.ref aG23, V.ref aG24]) := upd_same
    obtain ⟨G25, eH⟩ : ∃ Hx, upd G24 LG25 (.lst [V.ref aG23, V.ref aG24]) = Hx := ⟨_, rfl⟩
    rw [eH] at sN hT ⊢
    clear eH nL
    have sA := sA.trans sN
    have pM := exl_same sN pM
    have hM := sN _ _ hM
    have hN := sN _ _ hN
    have pS := exl_same sN pS
    have hS := sN _ _ hS
    clear sN
    refine ⟨pG22, LG25, _, _, rfl, rfl, hS, hT, smallE (Nat.le_of_ble_eq_true rfl), fun pG26 nL => ?_⟩
    have sN := same_upd (o := .lst (([V.ref aG8, V.ref aG9, V.ref aG11, V.ref aG13, V.ref aG14] ++ [V.ref aG16, V.ref aG17, V.ref aG18, V.ref aG19, V.ref aG20]) ++ [V.ref aG23, V.ref aG24])) nL
    have hU : (upd G25 pG26 (.lst (([V.ref aG8, V.ref aG9, V.ref aG11, V.ref aG13, V.ref aG14] ++ [V.ref aG16, V.ref aG17, V.ref aG18, V.ref aG19, V.ref aG20]) ++ [V.ref aG23, V.ref aG24]))) pG26 = some (.lst (([V.ref aG8, V.ref aG9, V.ref aG11, V.ref aG13, V.ref aG14] ++ [V.ref aG16, V.ref aG17, V.ref aG18, V.ref aG19, V.ref aG20]) ++ [V.ref aG23, V.ref aG24])) := upd_same
    obtain ⟨G26, eH⟩ : ∃ Hx, upd G25 pG26 (.lst (([V.ref aG8, V.ref aG9, V.ref aG11, V.ref aG13, V.ref aG14] ++ [V.ref aG16, V.ref aG17, V.ref aG18, V.ref aG19, V.ref aG20]) ++ [V.ref aG23, V.ref aG24])) = Hx := ⟨_, rfl⟩
    rw [eH] at sN hU ⊢
    clear eH nL
    have sA := sA.trans sN
    have pM := exl_same sN pM
    have hM := sN _ _ hM
    have hN := sN _ _ hN
    have pS := exl_same sN pS
    have hS := sN _ _ hS
    have hT := sN _ _ hT
    clear sN
    have hS := hU
    clear hU hT
    refine ⟨(by show 1 ≤ 1000; decide), fun ex na => ?_⟩
    refine ⟨ex, .int 3, rfl, upd_same, fun dx nd ne => ⟨rfl, dx, _, upd_same, by rw [upd_ne ne, upd_same], (same_upd na).free nd, fun aG27 nn => ?_⟩⟩
    have s1 := made_same (fs := [("index", .int 3)]) (C := (CA "InvalidText")) (o := exd dx [("index", .int 3)]) (same_upd (o := exo ex (CA "InvalidText") none) na) na nd
    have sN := s1.trans (same_upd (o := ExD (.ref (CA "InvalidText")) (some dx) aG27) nn)
    have hd := same_upd (o := ExD (.ref (CA "InvalidText")) (some dx) aG27) nn dx _ upd_same
    have hv : (upd (upd (del (upd (upd (upd G26 ex (exo ex (CA "InvalidText") none)) dx (exd dx [("index", .int 3)])) ex (exo ex (CA "InvalidText") (some dx))) ex) dx (.xd [("index", .int 3)])) aG27 (ExD (.ref (CA "InvalidText")) (some dx) aG27)) aG27 = some (ExD (.ref (CA "InvalidText")) (some dx) aG27) := upd_same
    obtain ⟨G27, eH⟩ : ∃ Hx, upd (upd (del (upd (upd (upd G26 ex (exo ex (CA "InvalidText") none)) dx (exd dx [("index", .int 3)])) ex (exo ex (CA "InvalidText") (some dx))) ex) dx (.xd [("index", .int 3)])) aG27 (ExD (.ref (CA "InvalidText")) (some dx) aG27) = Hx := ⟨_, rfl⟩
    rw [eH] at sN hv hd ⊢
    clear eH s1 nd ne nn na
    have sA := sA.trans sN
    have pM := exl_same sN pM
    have hM := sN _ _ hM
    have hN := sN _ _ hN
    have pS := exl_same sN pS
    have hS := sN _ _ hS
    clear sN
    refine ⟨_, _, _, _, rfl, hv, hd, rfl, ?_⟩
    clear hv hd
    refine ⟨(by show 1 ≤ 1000; decide), fun ex na => ?_⟩
    refine ⟨ex, .int 5, rfl, upd_same, fun dx nd ne => ⟨rfl, dx, _, upd_same, by rw [upd_ne ne, upd_same], (same_upd na).free nd, fun aG28 nn => ?_⟩⟩
    have s1 := made_same (fs := [("count", .int 5)]) (C := (CA "TooMany")) (o := exd dx [("count", .int 5)]) (same_upd (o := exo ex (CA "TooMany") none) na) na nd
    have sN := s1.trans (same_upd (o := ExD (.ref (CA "TooMany")) (some dx) aG28) nn)
    have hd := same_upd (o := ExD (.ref (CA "TooMany")) (some dx) aG28) nn dx _ upd_same
    have hv : (upd (upd (del (upd (upd (upd G27 ex (exo ex (CA "TooMany") none)) dx (exd dx [("count", .int 5)])) ex (exo ex (CA "TooMany") (some dx))) ex) dx (.xd [("count", .int 5)])) aG28 (ExD (.ref (CA "TooMany")) (some dx) aG28)) aG28 = some (ExD (.ref (CA "TooMany")) (some dx) aG28) := upd_same
    obtain ⟨G28, eH⟩ : ∃ Hx, upd (upd (del (upd (upd (upd G27 ex (exo ex (CA "TooMany") none)) dx (exd dx [("count", .int 5)])) ex (exo ex (CA "TooMany") (some dx))) ex) dx (.xd [("count", .int 5)])) aG28 (ExD (.ref (CA "TooMany")) (some dx) aG28) = Hx := ⟨_, rfl⟩
    rw [eH] at sN hv hd ⊢
    clear eH s1 nd ne nn na
    have sA := sA.trans sN
    have pM := exl_same sN pM
    have hM := sN _ _ hM
    have hN := sN _ _ hN
    have pS := exl_same sN pS
    have hS := sN _ _ hS
    clear sN
    refine ⟨_, _, _, _, rfl, hv, hd, rfl, ?_⟩
    clear hv hd
    refine ⟨(by show 2 ≤ sizeLine; decide), fun tG29 nt => ?_⟩
    have sN := same_upd (o := .tup [.str "few", .int 2]) nt
    have ht : (upd G28 tG29 (.tup [.str "few", .int 2])) tG29 = some (.tup [.str "few", .int 2]) := upd_same
    obtain ⟨G29, eH⟩ : ∃ Hx, upd G28 tG29 (.tup [.str "few", .int 2]) = Hx := ⟨_, rfl⟩
    rw [eH] at sN ht ⊢
    clear eH nt
    have sA := sA.trans sN
    have pM := exl_same sN pM
    have hM := sN _ _ hM
    have hN := sN _ _ hN
    have pS := exl_same sN pS
    have hS := sN _ _ hS
    clear sN
    refine ⟨(by show 1 ≤ 1000; decide), fun ex na => ?_⟩
    refine ⟨ex, tG29, _, rfl, upd_same, same_upd na _ _ ht, flat_of (by decide) (by decide), fun Hc dx uG30 s1 nd ne hu0 => ⟨rfl, dx, _, upd_same, by rw [upd_ne ne, upd_same], ((same_upd na).trans s1).free nd, fun aG30 nn => ?_⟩⟩
    have s2 := made_same (fs := [("reason", .ref uG30)]) (C := (CA "Impossible")) (o := exd dx [("reason", .ref uG30)]) ((same_upd (o := exo ex (CA "Impossible") none) na).trans s1) na nd
    have ux : uG30 ≠ ex := fun z => by
      rw [z, s1 _ _ upd_same] at hu0
      cases hu0
    have ud : uG30 ≠ dx := ne_of_none hu0 nd
    have sN := s2.trans (same_upd (o := ExD (.ref (CA "Impossible")) (some dx) aG30) nn)
    have hd := same_upd (o := ExD (.ref (CA "Impossible")) (some dx) aG30) nn dx _ upd_same
    have hv : (upd (upd (del (upd (upd Hc dx (exd dx [("reason", .ref uG30)])) ex (exo ex (CA "Impossible") (some dx))) ex) dx (.xd [("reason", .ref uG30)])) aG30 (ExD (.ref (CA "Impossible")) (some dx) aG30)) aG30 = some (ExD (.ref (CA "Impossible")) (some dx) aG30) := upd_same
    have hu : (upd (upd (del (upd (upd Hc dx (exd dx [("reason", .ref uG30)])) ex (exo ex (CA "Impossible") (some dx))) ex) dx (.xd [("reason", .ref uG30)])) aG30 (ExD (.ref (CA "Impossible")) (some dx) aG30)) uG30 = some (.tup [.str "few", .int 2]) := same_upd nn _ _ (by rw [upd_ne ud, del_ne ux, upd_ne ux, upd_ne ud]; exact hu0)
    obtain ⟨G30, eH⟩ : ∃ Hx, upd (upd (del (upd (upd Hc dx (exd dx [("reason", .ref uG30)])) ex (exo ex (CA "Impossible") (some dx))) ex) dx (.xd [("reason", .ref uG30)])) aG30 (ExD (.ref (CA "Impossible")) (some dx) aG30) = Hx := ⟨_, rfl⟩
    rw [eH] at sN hv hd hu ⊢
    clear eH s1 s2 nd ne nn na ux ud hu0 ht
    have sA := sA.trans sN
    have pM := exl_same sN pM
    have hM := sN _ _ hM
    have hN := sN _ _ hN
    have pS := exl_same sN pS
    have hS := sN _ _ hS
    clear sN
    refine ⟨_, _, _, _, rfl, hv, hd, rfl, ?_⟩
    have hu1 := hu
    clear hv hd hu
    refine ⟨(by show 3 ≤ sizeLine; decide), fun LG31 nL => ?_⟩
    have sN := same_upd (o := .lst [V.int 3, .int 5, .ref uG30]) nL
    have hF : (upd G30 LG31 (.lst [V.int 3, .int 5, .ref uG30])) LG31 = some (.lst [V.int 3, .int 5, .ref uG30]) := upd_same
    obtain ⟨G31, eH⟩ : ∃ Hx, upd G30 LG31 (.lst [V.int 3, .int 5, .ref uG30]) = Hx := ⟨_, rfl⟩
    have nF : H LG31 = none := sA.free nL
    rw [eH] at sN hF ⊢
    clear eH nL
    have sA := sA.trans sN
    have pM := exl_same sN pM
    have hM := sN _ _ hM
    have hN := sN _ _ hN
    have pS := exl_same sN pS
    have hS := sN _ _ hS
    have hu1 := sN _ _ hu1
    clear sN
    refine ⟨_, rfl, .inl ⟨rfl, _, SqL.of hF⟩, ?_⟩
    refine ⟨(by show 2 ≤ sizeLine; decide), fun tG32 nt => ?_⟩
    have sN := same_upd (o := .tup [.str "level", .int 0]) nt
    have ht : (upd G31 tG32 (.tup [.str "level", .int 0])) tG32 = some (.tup [.str "level", .int 0]) := upd_same
    obtain ⟨G32, eH⟩ : ∃ Hx, upd G31 tG32 (.tup [.str "level", .int 0]) = Hx := ⟨_, rfl⟩
    rw [eH] at sN ht ⊢
    clear eH nt
    have sA := sA.trans sN
    have pM := exl_same sN pM
    have hM := sN _ _ hM
    have hN := sN _ _ hN
    have pS := exl_same sN pS
    have hS := sN _ _ hS
    have hu1 := sN _ _ hu1
    have hF := sN _ _ hF
    clear sN
    refine ⟨(by show 1 ≤ 1000; decide), fun ex na => ?_⟩
    refine ⟨ex, tG32, _, rfl, upd_same, same_upd na _ _ ht, flat_of (by decide) (by decide), fun Hc dx uG33 s1 nd ne hu0 => ⟨rfl, dx, _, upd_same, by rw [upd_ne ne, upd_same], ((same_upd na).trans s1).free nd, fun aG33 nn => ?_⟩⟩
    have s2 := made_same (fs := [("conflict", .ref uG33)]) (C := (CA "Contradiction")) (o := exd dx [("conflict", .ref uG33)]) ((same_upd (o := exo ex (CA "Contradiction") none) na).trans s1) na nd
    have ux : uG33 ≠ ex := fun z => by
      rw [z, s1 _ _ upd_same] at hu0
      cases hu0
    have ud : uG33 ≠ dx := ne_of_none hu0 nd
    have sN := s2.trans (same_upd (o := ExD (.ref (CA "Contradiction")) (some dx) aG33) nn)
    have hd := same_upd (o := ExD (.ref (CA "Contradiction")) (some dx) aG33) nn dx _ upd_same
    have hv : (upd (upd (del (upd (upd Hc dx (exd dx [("conflict", .ref uG33)])) ex (exo ex (CA "Contradiction") (some dx))) ex) dx (.xd [("conflict", .ref uG33)])) aG33 (ExD (.ref (CA "Contradiction")) (some dx) aG33)) aG33 = some (ExD (.ref (CA "Contradiction")) (some dx) aG33) := upd_same
    have hu : (upd (upd (del (upd (upd Hc dx (exd dx [("conflict", .ref uG33)])) ex (exo ex (CA "Contradiction") (some dx))) ex) dx (.xd [("conflict", .ref uG33)])) aG33 (ExD (.ref (CA "Contradiction")) (some dx) aG33)) uG33 = some (.tup [.str "level", .int 0]) := same_upd nn _ _ (by rw [upd_ne ud, del_ne ux, upd_ne ux, upd_ne ud]; exact hu0)
    obtain ⟨G33, eH⟩ : ∃ Hx, upd (upd (del (upd (upd Hc dx (exd dx [("conflict", .ref uG33)])) ex (exo ex (CA "Contradiction") (some dx))) ex) dx (.xd [("conflict", .ref uG33)])) aG33 (ExD (.ref (CA "Contradiction")) (some dx) aG33) = Hx := ⟨_, rfl⟩
    rw [eH] at sN hv hd hu ⊢
    clear eH s1 s2 nd ne nn na ux ud hu0 ht
    have sA := sA.trans sN
    have pM := exl_same sN pM
    have hM := sN _ _ hM
    have hN := sN _ _ hN
    have pS := exl_same sN pS
    have hS := sN _ _ hS
    have hu1 := sN _ _ hu1
    have hF := sN _ _ hF
    clear sN
    refine ⟨_, _, _, _, rfl, hv, hd, rfl, ?_⟩
    have hu2 := hu
    clear hv hd hu
    refine ⟨LG31, _, _, rfl, rfl, hF, small (Nat.le_of_ble_eq_true rfl), ?_⟩
    have sA : Same H (upd G33 LG31 (.lst ([V.int 3, .int 5, .ref uG30] ++ [V.ref uG33]))) := fun b o e => by
      rw [upd_ne (ne_of_none e nF)]
      exact sA _ _ e
    have hM : (upd G33 LG31 (.lst ([V.int 3, .int 5, .ref uG30] ++ [V.ref uG33]))) LG6 = some (.lst [V.ref aG1, V.ref aG2, V.ref aG3, V.ref aG4, V.ref aG5]) := by
      rw [upd_ne (ne_of hM hF (by intro z; cases z))]
      exact hM
    have hN : (upd G33 LG31 (.lst ([V.int 3, .int 5, .ref uG30] ++ [V.ref uG33]))) LG7 = some (.lst [V.str "InvalidSequence", .str "InvalidState", .str "InvalidPosition", .str "InvalidNumber", .str "InvalidItems", .str "TooLong"]) := by
      rw [upd_ne (ne_of hN hF (by intro z; cases z))]
      exact hN
    have hS : (upd G33 LG31 (.lst ([V.int 3, .int 5, .ref uG30] ++ [V.ref uG33]))) pG26 = some (.lst (([V.ref aG8, V.ref aG9, V.ref aG11, V.ref aG13, V.ref aG14] ++ [V.ref aG16, V.ref aG17, V.ref aG18, V.ref aG19, V.ref aG20]) ++ [V.ref aG23, V.ref aG24])) := by
      rw [upd_ne (ne_of hS hF (by intro z; cases z))]
      exact hS
    have hu1 : (upd G33 LG31 (.lst ([V.int 3, .int 5, .ref uG30] ++ [V.ref uG33]))) uG30 = some (.tup [.str "few", .int 2]) := by
      rw [upd_ne (ne_of hu1 hF (by intro z; cases z))]
      exact hu1
    have hu2 : (upd G33 LG31 (.lst ([V.int 3, .int 5, .ref uG30] ++ [V.ref uG33]))) uG33 = some (.tup [.str "level", .int 0]) := by
      rw [upd_ne (ne_of hu2 hF (by intro z; cases z))]
      exact hu2
    have pM := Paired.imp (G := EXV K CA (upd G33 LG31 (.lst ([V.int 3, .int 5, .ref uG30] ++ [V.ref uG33])))) (fun v nm ⟨a, d, e, h, k, c, m⟩ => ⟨a, d, e, by rw [upd_ne (ne_of h hF (by intro z; cases z))]; exact h, (fun dx e => by obtain ⟨fs, z⟩ := k dx e; exact ⟨fs, by rw [upd_ne (ne_of z hF (by intro z; cases z))]; exact z⟩), c, m⟩) pM
    have pS := Paired.imp (G := EXV K CA (upd G33 LG31 (.lst ([V.int 3, .int 5, .ref uG30] ++ [V.ref uG33])))) (fun v nm ⟨a, d, e, h, k, c, m⟩ => ⟨a, d, e, by rw [upd_ne (ne_of h hF (by intro z; cases z))]; exact h, (fun dx e => by obtain ⟨fs, z⟩ := k dx e; exact ⟨fs, by rw [upd_ne (ne_of z hF (by intro z; cases z))]; exact z⟩), c, m⟩) pS
    have hF : (upd G33 LG31 (.lst ([V.int 3, .int 5, .ref uG30] ++ [V.ref uG33]))) LG31 = some (.lst ([V.int 3, .int 5, .ref uG30] ++ [V.ref uG33])) := upd_same
    obtain ⟨G34, eH⟩ : ∃ Hx, upd G33 LG31 (.lst ([V.int 3, .int 5, .ref uG30] ++ [V.ref uG33])) = Hx := ⟨_, rfl⟩
    rw [eH] at sA hM hN hS hu1 hu2 pM pS hF ⊢
    clear eH nF
    refine ⟨_, rfl, ?_⟩
    have pT : Paired (EXV K CA G34) [] [] := .nil
    refine fun aG35 na => ?_
    have sN := same_upd (o := ExD (.ref (CA "TooLong")) none aG35) na
    have hv : (upd G34 aG35 (ExD (.ref (CA "TooLong")) none aG35)) aG35 = some (ExD (.ref (CA "TooLong")) none aG35) := upd_same
    obtain ⟨G35, eH⟩ : ∃ Hx, upd G34 aG35 (ExD (.ref (CA "TooLong")) none aG35) = Hx := ⟨_, rfl⟩
    rw [eH] at sN hv ⊢
    clear eH na
    have sA := sA.trans sN
    have pM := exl_same sN pM
    have hM := sN _ _ hM
    have hN := sN _ _ hN
    have pS := exl_same sN pS
    have hS := sN _ _ hS
    have hu1 := sN _ _ hu1
    have hF := sN _ _ hF
    have hu2 := sN _ _ hu2
    have pT := exl_same sN pT
    clear sN
    have pT := Paired.app pT (.cons (a := V.ref aG35) (b := ("TooLong" : Str)) ⟨aG35, none, rfl, hv, dok_none, F5, by decide +kernel⟩ .nil)
    clear hv
    refine ⟨(by show 1 ≤ sizeLine; decide), fun LG36 nL => ?_⟩
    have sN := same_upd (o := .lst [V.ref aG35]) nL
    have hT : (upd G35 LG36 (.lst [V.ref aG35])) LG36 = some (.lst [V.ref aG35]) := upd_same
    obtain ⟨G36, eH⟩ : ∃ Hx, upd G35 LG36 (.lst [V.ref aG35]) = Hx := ⟨_, rfl⟩
    rw [eH] at sN hT ⊢
    clear eH nL
    have sA := sA.trans sN
    have pM := exl_same sN pM
    have hM := sN _ _ hM
    have hN := sN _ _ hN
    have pS := exl_same sN pS
    have hS := sN _ _ hS
    have hu1 := sN _ _ hu1
    have hF := sN _ _ hF
    have hu2 := sN _ _ hu2
    have pT := exl_same sN pT
    clear sN
    refine ⟨LG6, LG36, _, _, rfl, rfl, hM, hT, smallE (Nat.le_of_ble_eq_true rfl), fun pG37 nL => ?_⟩
    have sN := same_upd (o := .lst ([V.ref aG1, V.ref aG2, V.ref aG3, V.ref aG4, V.ref aG5] ++ [V.ref aG35])) nL
    have hU : (upd G36 pG37 (.lst ([V.ref aG1, V.ref aG2, V.ref aG3, V.ref aG4, V.ref aG5] ++ [V.ref aG35]))) pG37 = some (.lst ([V.ref aG1, V.ref aG2, V.ref aG3, V.ref aG4, V.ref aG5] ++ [V.ref aG35])) := upd_same
    obtain ⟨G37, eH⟩ : ∃ Hx, upd G36 pG37 (.lst ([V.ref aG1, V.ref aG2, V.ref aG3, V.ref aG4, V.ref aG5] ++ [V.ref aG35])) = Hx := ⟨_, rfl⟩
    rw [eH] at sN hU ⊢
    clear eH nL
    have sA := sA.trans sN
    have pM := exl_same sN pM
    have hM := sN _ _ hM
    have hN := sN _ _ hN
    have pS := exl_same sN pS
    have hS := sN _ _ hS
    have hu1 := sN _ _ hu1
    have hF := sN _ _ hF
    have hu2 := sN _ _ hu2
    have pT := exl_same sN pT
    have hT := sN _ _ hT
    clear sN
    have lx : 6 = 6 := rfl
    have px : Paired (EXV K CA G37) ([V.ref aG1, V.ref aG2, V.ref aG3, V.ref aG4, V.ref aG5] ++ [V.ref aG35]) (["InvalidSequence", "InvalidState", "InvalidPosition", "InvalidNumber", "InvalidItems", "TooLong"] : List Str) := Paired.app pM pT
    refine ⟨pG37, rfl, ⟨_, .of hU⟩, fun CG38 nL => lc_list (K := K) (a := pG37) (fun i H' => Same G37 H' ∧ H' CG38 = some (.lst (((["InvalidSequence", "InvalidState", "InvalidPosition", "InvalidNumber", "InvalidItems", "TooLong"] : List Str).take i).map fun n => V.str (wordOf n)))) ⟨same_upd nL, upd_same⟩ (fun i H' _ p => .of (p.1 _ _ hU)) (fun i x H' ex hP => ?_) (fun G38 hP => ?_)⟩
    · obtain ⟨sm, hL⟩ := hP
      obtain ⟨nm, en, a, d, rfl, hE, hd, C, mem⟩ := Paired.at px ex
      refine ⟨rfl, yesT ⟨_, rfl, a, nm, d, rfl, sm _ _ hE, hd.same sm, C, mem, fun H4 s4 => ⟨_, s4 _ _ hL, ?_, same_grow nL (sm.trans s4), ?_⟩⟩⟩
      · rw [List.length_map, List.length_take]
        have e9 : (["InvalidSequence", "InvalidState", "InvalidPosition", "InvalidNumber", "InvalidItems", "TooLong"] : List Str).length = 6 := rfl
        rw [e9]
        exact small (by omega)
      · rw [upd_same, take_snoc en, List.map_append]
        rfl
    obtain ⟨sN, hL⟩ := hP
    have hC : G38 CG38 = some (.lst [V.str "InvalidSequence", .str "InvalidState", .str "InvalidPosition", .str "InvalidNumber", .str "InvalidItems", .str "TooLong"]) := by
      rw [Paired.len px, List.take_length] at hL
      rw [hL]
      exact congrArg (fun z => some (HO.lst z)) (show _ = [V.str "InvalidSequence", .str "InvalidState", .str "InvalidPosition", .str "InvalidNumber", .str "InvalidItems", .str "TooLong"] by decide +kernel)
    clear hL px lx nL
    have sA := sA.trans sN
    have pM := exl_same sN pM
    have hM := sN _ _ hM
    have hN := sN _ _ hN
    have pS := exl_same sN pS
    have hS := sN _ _ hS
    have hu1 := sN _ _ hu1
    have hF := sN _ _ hF
    have hu2 := sN _ _ hu2
    have pT := exl_same sN pT
    have hT := sN _ _ hT
    have hU := sN _ _ hU
    clear sN
    refine ⟨_, rfl, .list [.str "InvalidSequence", .str "InvalidState", .str "InvalidPosition", .str "InvalidNumber", .str "InvalidItems", .str "TooLong"], .list [.str "InvalidSequence", .str "InvalidState", .str "InvalidPosition", .str "InvalidNumber", .str "InvalidItems", .str "TooLong"], .lst (.of hC) (.cons (.str _) (.cons (.str _) (.cons (.str _) (.cons (.str _) (.cons (.str _) (.cons (.str _) .nil)))))), .lst (.of hN) (.cons (.str _) (.cons (.str _) (.cons (.str _) (.cons (.str _) (.cons (.str _) (.cons (.str _) .nil)))))), by decide +kernel, by decide +kernel, _, rfl, iteN (by decide +kernel) ?_⟩
    have lx : 12 = 12 := rfl
    have px : Paired (EXV K CA G38) (([V.ref aG8, V.ref aG9, V.ref aG11, V.ref aG13, V.ref aG14] ++ [V.ref aG16, V.ref aG17, V.ref aG18, V.ref aG19, V.ref aG20]) ++ [V.ref aG23, V.ref aG24]) (["InvalidText", "TooMany", "Impossible", "Contradiction", "InvalidKind", "InvalidKinds", "InvalidEffects", "InvalidCounts", "InvalidRecord", "InvalidCommand", "SameEffect", "NothingToUndo"] : List Str) := pS
    refine ⟨_, rfl, pG26, rfl, ⟨_, .of hS⟩, fun CG39 nL => lc_list (K := K) (a := pG26) (fun i H' => Same G38 H' ∧ H' CG39 = some (.lst (((["InvalidText", "TooMany", "Impossible", "Contradiction", "InvalidKind", "InvalidKinds", "InvalidEffects", "InvalidCounts", "InvalidRecord", "InvalidCommand", "SameEffect", "NothingToUndo"] : List Str).take i).map fun n => V.str (wordOf n)))) ⟨same_upd nL, upd_same⟩ (fun i H' _ p => .of (p.1 _ _ hS)) (fun i x H' ex hP => ?_) (fun G39 hP => ?_)⟩
    · obtain ⟨sm, hL⟩ := hP
      obtain ⟨nm, en, a, d, rfl, hE, hd, C, mem⟩ := Paired.at px ex
      refine ⟨rfl, yesT ⟨_, rfl, a, nm, d, rfl, sm _ _ hE, hd.same sm, C, mem, fun H4 s4 => ⟨_, s4 _ _ hL, ?_, same_grow nL (sm.trans s4), ?_⟩⟩⟩
      · rw [List.length_map, List.length_take]
        have e9 : (["InvalidText", "TooMany", "Impossible", "Contradiction", "InvalidKind", "InvalidKinds", "InvalidEffects", "InvalidCounts", "InvalidRecord", "InvalidCommand", "SameEffect", "NothingToUndo"] : List Str).length = 12 := rfl
        rw [e9]
        exact small (by omega)
      · rw [upd_same, take_snoc en, List.map_append]
        rfl
    obtain ⟨sN, hL⟩ := hP
    have hD : G39 CG39 = some (.lst [V.str "odd", V.str "odd", V.str "odd", V.str "odd", V.str "odd", V.str "odd", V.str "odd", V.str "odd", V.str "odd", V.str "odd", V.str "odd", V.str "odd"]) := by
      rw [Paired.len px, List.take_length] at hL
      rw [hL]
      exact congrArg (fun z => some (HO.lst z)) (show _ = [V.str "odd", V.str "odd", V.str "odd", V.str "odd", V.str "odd", V.str "odd", V.str "odd", V.str "odd", V.str "odd", V.str "odd", V.str "odd", V.str "odd"] by decide +kernel)
    clear hL px lx nL
    have sA := sA.trans sN
    have pM := exl_same sN pM
    have hM := sN _ _ hM
    have hN := sN _ _ hN
    have pS := exl_same sN pS
    have hS := sN _ _ hS
    have hu1 := sN _ _ hu1
    have hF := sN _ _ hF
    have hu2 := sN _ _ hu2
    have pT := exl_same sN pT
    have hT := sN _ _ hT
    have hU := sN _ _ hU
    have hC := sN _ _ hC
    clear sN
    refine ⟨(by show 1 ≤ sizeLine; decide), fun e ne => ⟨e, 12, _, rfl, rfl, upd_same, by decide, by decide, (by show 1 * 12 ≤ sizeLine; decide), fun e2 ne2 => ?_⟩⟩
    refine ⟨.list [.str "odd", .str "odd", .str "odd", .str "odd", .str "odd", .str "odd", .str "odd", .str "odd", .str "odd", .str "odd", .str "odd", .str "odd"], .list [.str "odd", .str "odd", .str "odd", .str "odd", .str "odd", .str "odd", .str "odd", .str "odd", .str "odd", .str "odd", .str "odd", .str "odd"], .lst (.of (same_upd ne2 _ _ (same_upd ne _ _ hD))) (.cons (.str _) (.cons (.str _) (.cons (.str _) (.cons (.str _) (.cons (.str _) (.cons (.str _) (.cons (.str _) (.cons (.str _) (.cons (.str _) (.cons (.str _) (.cons (.str _) (.cons (.str _) .nil)))))))))))), .lst (.of upd_same) (.cons (.str _) (.cons (.str _) (.cons (.str _) (.cons (.str _) (.cons (.str _) (.cons (.str _) (.cons (.str _) (.cons (.str _) (.cons (.str _) (.cons (.str _) (.cons (.str _) (.cons (.str _) .nil)))))))))))), by decide +kernel, by decide +kernel, _, rfl, iteN (by decide +kernel) ?_⟩
    have sN := (same_upd (o := .lst [V.str "odd"]) ne).trans (same_upd (o := .lst (List.replicate (12 : Int).toNat [V.str "odd"]).flatten) ne2)
    obtain ⟨G40, eH⟩ : ∃ Hx, upd (upd G39 e (.lst [V.str "odd"])) e2 (.lst (List.replicate (12 : Int).toNat [V.str "odd"]).flatten) = Hx := ⟨_, rfl⟩
    rw [eH] at sN ⊢
    clear eH ne ne2
    have sA := sA.trans sN
    have pM := exl_same sN pM
    have hM := sN _ _ hM
    have hN := sN _ _ hN
    have pS := exl_same sN pS
    have hS := sN _ _ hS
    have hu1 := sN _ _ hu1
    have hF := sN _ _ hF
    have hu2 := sN _ _ hu2
    have pT := exl_same sN pT
    have hT := sN _ _ hT
    have hU := sN _ _ hU
    have hC := sN _ _ hC
    have hD := sN _ _ hD
    clear sN
    refine ⟨_, rfl, ?_⟩
    refine ⟨(by show 2 ≤ sizeLine; decide), fun tG41 nt => ?_⟩
    have sN := same_upd (o := .tup [.str "few", .int 2]) nt
    have ht : (upd G40 tG41 (.tup [.str "few", .int 2])) tG41 = some (.tup [.str "few", .int 2]) := upd_same
    obtain ⟨G41, eH⟩ : ∃ Hx, upd G40 tG41 (.tup [.str "few", .int 2]) = Hx := ⟨_, rfl⟩
    rw [eH] at sN ht ⊢
    clear eH nt
    have sA := sA.trans sN
    have pM := exl_same sN pM
    have hM := sN _ _ hM
    have hN := sN _ _ hN
    have pS := exl_same sN pS
    have hS := sN _ _ hS
    have hu1 := sN _ _ hu1
    have hF := sN _ _ hF
    have hu2 := sN _ _ hu2
    have pT := exl_same sN pT
    have hT := sN _ _ hT
    have hU := sN _ _ hU
    have hC := sN _ _ hC
    have hD := sN _ _ hD
    clear sN
    have ht1 := ht
    refine ⟨(by show 2 ≤ sizeLine; decide), fun tG42 nt => ?_⟩
    have sN := same_upd (o := .tup [.str "level", .int 0]) nt
    have ht : (upd G41 tG42 (.tup [.str "level", .int 0])) tG42 = some (.tup [.str "level", .int 0]) := upd_same
    obtain ⟨G42, eH⟩ : ∃ Hx, upd G41 tG42 (.tup [.str "level", .int 0]) = Hx := ⟨_, rfl⟩
    rw [eH] at sN ht ⊢
    clear eH nt
    have sA := sA.trans sN
    have pM := exl_same sN pM
    have hM := sN _ _ hM
    have hN := sN _ _ hN
    have pS := exl_same sN pS
    have hS := sN _ _ hS
    have hu1 := sN _ _ hu1
    have hF := sN _ _ hF
    have hu2 := sN _ _ hu2
    have pT := exl_same sN pT
    have hT := sN _ _ hT
    have hU := sN _ _ hU
    have hC := sN _ _ hC
    have hD := sN _ _ hD
    have ht1 := sN _ _ ht1
    clear sN
    refine ⟨(by show 4 ≤ sizeLine; decide), fun LG43 nL => ?_⟩
    have sN := same_upd (o := .lst [V.int 3, .int 5, .ref tG41, .ref tG42]) nL
    have hG : (upd G42 LG43 (.lst [V.int 3, .int 5, .ref tG41, .ref tG42])) LG43 = some (.lst [V.int 3, .int 5, .ref tG41, .ref tG42]) := upd_same
    obtain ⟨G43, eH⟩ : ∃ Hx, upd G42 LG43 (.lst [V.int 3, .int 5, .ref tG41, .ref tG42]) = Hx := ⟨_, rfl⟩
    rw [eH] at sN hG ⊢
    clear eH nL
    have sA := sA.trans sN
    have pM := exl_same sN pM
    have hM := sN _ _ hM
    have hN := sN _ _ hN
    have pS := exl_same sN pS
    have hS := sN _ _ hS
    have hu1 := sN _ _ hu1
    have hF := sN _ _ hF
    have hu2 := sN _ _ hu2
    have pT := exl_same sN pT
    have hT := sN _ _ hT
    have hU := sN _ _ hU
    have hC := sN _ _ hC
    have hD := sN _ _ hD
    have ht1 := sN _ _ ht1
    have ht := sN _ _ ht
    clear sN
    refine ⟨.list [.int 3, .int 5, .tuple [.str "few", .int 2], .tuple [.str "level", .int 0]], .list [.int 3, .int 5, .tuple [.str "few", .int 2], .tuple [.str "level", .int 0]], .lst (.of hF) (.cons (.int _) (.cons (.int _) (.cons (.tup (.of hu1) (.cons (.str _) (.cons (.int _) .nil))) (.cons (.tup (.of hu2) (.cons (.str _) (.cons (.int _) .nil))) .nil)))), .lst (.of hG) (.cons (.int _) (.cons (.int _) (.cons (.tup (.of ht1) (.cons (.str _) (.cons (.int _) .nil))) (.cons (.tup (.of ht) (.cons (.str _) (.cons (.int _) .nil))) .nil)))), by decide +kernel, by decide +kernel, true, by decide +kernel, iteT ?_⟩
    refine ⟨(by show 1 ≤ 1000; decide), fun ex na => ?_⟩
    refine ⟨ex, .non, rfl, upd_same, fun dx nd ne => ⟨rfl, dx, _, upd_same, by rw [upd_ne ne, upd_same], (same_upd na).free nd, fun aG44 nn => ?_⟩⟩
    have s1 := made_same (fs := [("index", .non)]) (C := (CA "InvalidText")) (o := exd dx [("index", .non)]) (same_upd (o := exo ex (CA "InvalidText") none) na) na nd
    have sN := s1.trans (same_upd (o := ExD (.ref (CA "InvalidText")) (some dx) aG44) nn)
    have hd := same_upd (o := ExD (.ref (CA "InvalidText")) (some dx) aG44) nn dx _ upd_same
    have hv : (upd (upd (del (upd (upd (upd G43 ex (exo ex (CA "InvalidText") none)) dx (exd dx [("index", .non)])) ex (exo ex (CA "InvalidText") (some dx))) ex) dx (.xd [("index", .non)])) aG44 (ExD (.ref (CA "InvalidText")) (some dx) aG44)) aG44 = some (ExD (.ref (CA "InvalidText")) (some dx) aG44) := upd_same
    obtain ⟨G44, eH⟩ : ∃ Hx, upd (upd (del (upd (upd (upd G43 ex (exo ex (CA "InvalidText") none)) dx (exd dx [("index", .non)])) ex (exo ex (CA "InvalidText") (some dx))) ex) dx (.xd [("index", .non)])) aG44 (ExD (.ref (CA "InvalidText")) (some dx) aG44) = Hx := ⟨_, rfl⟩
    rw [eH] at sN hv hd ⊢
    clear eH s1 nd ne nn na
    have sA := sA.trans sN
    have pM := exl_same sN pM
    have hM := sN _ _ hM
    have hN := sN _ _ hN
    have pS := exl_same sN pS
    have hS := sN _ _ hS
    have hu1 := sN _ _ hu1
    have hF := sN _ _ hF
    have hu2 := sN _ _ hu2
    have pT := exl_same sN pT
    have hT := sN _ _ hT
    have hU := sN _ _ hU
    have hC := sN _ _ hC
    have hD := sN _ _ hD
    have ht1 := sN _ _ ht1
    have ht := sN _ _ ht
    have hG := sN _ _ hG
    clear sN
    refine ⟨_, _, _, _, rfl, hv, hd, rfl, ?_⟩
    exact ⟨rfl, q _ sA⟩
end
end UP

set_option Elab.async false
set_option linter.all false
set_option maxRecDepth 100000
set_option maxHeartbeats 4000000
set_option pp.maxSteps 700
namespace UP
open PySem PySem.Spec PyProof.Rows L2
def fullR : List Run := (List.range 400).map fun k => (if k % 2 = 0 then ("a" : Str) else "b", (1 : Int))
def runB (r : Run) : Bool := kindB r.1 && decide (1 ≤ r.2 ∧ r.2 ≤ 1000000000000000000000000000000)
def fullD : Dat := .lst (fullR.map dR)
theorem full_seq : fullD.seq = true ∧ fullD.fitsB = true := by decide +kernel
theorem full_run : fullD.runs = fullR := runs_dR fullR
def oneD (z : Str) (n : Int) : Dat := .lst [.tup [.str z, .int n]]
theorem one_ok : (oneD "a" 1).seq = true ∧ (oneD "b" 1).seq = true ∧ (oneD "a" 401).seq = true ∧ (oneD "a" ((10 : Int) ^ ((30 : Int).toNat))).seq = true ∧ (oneD "a" ((10 : Int) ^ ((30 : Int).toNat) - 1)).seq = true := by decide +kernel
theorem one_fit (z : Str) (n : Int) (h : z.length ≤ 4000) : (oneD z n).fits := by
  refine fitsB_ok ?_
  show (true && (decide (z.length ≤ 4000) && true)) = true
  rw [decide_eq_true h]
  rfl
theorem lj1 : LongJ (joinR fullR [("a", 1)]) := .inl (by decide +kernel)
theorem lj2 : LongJ (joinR [("a", (10 : Int) ^ ((30 : Int).toNat))] [("a", 1)]) := .inr ⟨by decide +kernel, ("a", (10 : Int) ^ ((30 : Int).toNat) + 1), by decide +kernel, by decide +kernel⟩
theorem jn1 : joinR fullR [("b", 1)] = fullR.take 399 ++ ([("b", 2)] : List Run) ∧ (joinR fullR [("b", 1)]).length ≤ 400 ∧ ∀ r ∈ joinR fullR [("b", 1)], r.2 ≤ 1000000000000000000000000000000 := by decide +kernel
theorem jn2 : (joinR [("a", (10 : Int) ^ ((30 : Int).toNat) - 1)] [("a", 1)]).length ≤ 400 ∧ ∀ r ∈ joinR [("a", (10 : Int) ^ ((30 : Int).toNat) - 1)] [("a", 1)], r.2 ≤ 1000000000000000000000000000000 := by decide +kernel
theorem lg3 : 400 < lenR (oneD "a" 401).runs := by decide +kernel
theorem full_len : lenR fullR ≤ 400 := by decide +kernel
theorem full_last : atI ((itR fullR).map V.str) (-1) = some (.str "b") := by decide +kernel
theorem er1 {c : Dat} : Er 4 fullD (oneD "a" 1) c "TooLong" := .l4 (fitsB_ok full_seq.2) (one_fit _ _ (by decide)) full_seq.1 one_ok.1 (by rw [full_run]; exact lj1)
theorem er2 {c : Dat} : Er 4 (oneD "a" ((10 : Int) ^ ((30 : Int).toNat))) (oneD "a" 1) c "TooLong" := .l4 (one_fit _ _ (by decide)) (one_fit _ _ (by decide)) one_ok.2.2.2.1 one_ok.1 lj2
theorem er3 {b c : Dat} : Er 6 (oneD "a" 401) b c "TooLong" := .l6 (one_fit _ _ (by decide)) one_ok.2.2.1 lg3
theorem er4 {c : Dat} : Er 4 fullD (oneD "b" 1) c "none" := .n4 full_seq.1 one_ok.2.1 (by rw [full_run]; exact jn1.2.1) (by rw [full_run]; exact jn1.2.2)
theorem er5 {c : Dat} : Er 4 (oneD "a" ((10 : Int) ^ ((30 : Int).toNat) - 1)) (oneD "a" 1) c "none" := .n4 one_ok.2.2.2.2 one_ok.1 jn2.1 jn2.2
end UP

set_option Elab.async false
set_option linter.all false
set_option maxRecDepth 100000
set_option maxHeartbeats 40000000
set_option pp.maxSteps 200
namespace UP
open PySem PySem.Spec PyProof.Rows L2
theorem full_get {i : Nat} (h : i < 400) : fullR[i]? = some (if i % 2 = 0 then ("a" : Str) else "b", (1 : Int)) := by
  unfold fullR
  rw [List.getElem?_map, List.getElem?_range h]
  rfl
theorem p_take {α β : Type} {F : α → β → Prop} : ∀ (n : Nat) {xs : List α} {ys : List β}, Paired F xs ys → Paired F (xs.take n) (ys.take n)
  | 0, _, _, _ => .nil
  | _ + 1, _, _, .nil => .nil
  | n + 1, _, _, .cons h t => .cons h (p_take n t)
theorem full_kinds : ∀ r ∈ fullR.take 399 ++ ([("b", 2)] : List Run), KindOk r.1 := by decide +kernel
section
variable {P : Program} {w : World} {K : PySem.W.Frag} {mg : Str → Option Value} {base : Heap}
/-! _law_long_right: slots 0:full 1:great 2:asked 3:k -/
abbrev s_law_long_right : Stmt := topS 56
theorem sc_law_long_right : FnScope ["full", "great", "asked", "k"] [] (defScope s_law_long_right) := ⟨rfl, rfl, rfl, by decide +kernel, rfl, by decide +kernel, by decide +kernel⟩
def sp_law_long_right : Sp := fun vs H Q _ => vs = [] ∧ ∀ H', Same H H' → Q (.bl true) H'
theorem ok_law_long_right (D : Df K mg "_law_long_right" s_law_long_right) (T : Tx mg) (G_law_asked : Has P w K mg base 8 "_law_asked" ["ask", "one", "other", "third"] sp_law_asked) (G_joined : Has P w K mg base 6 "joined" ["first", "second"] sp_joined) (G_items_of : Has P w K mg base 7 "items_of" ["sequence"] sp_items_of) : Has P w K mg base 9 "_law_long_right" [] sp_law_long_right := by
  refine has_of D sc_law_long_right (fun _ _ _ _ _ _ us hl => match us, hl with | [], _ => rfl) (fun vs H Q E h => ?_) (fun f cdv A outer s₀ H vs Q E hr h => ?_)
  · obtain ⟨rfl, _⟩ := h
    rfl
  · obtain ⟨rfl, q⟩ := h
    refine ⟨_, (pss_cons (ps_setLc (i := 0) (own := [("k", 3)]) rfl sc_law_long_right.nd rfl rfl (sw_true rfl rfl rfl (by decide +kernel)) (pi_range1 (by rfl) T.n_range (pa_cons pe_int pa_nil)) (blkOk_by (N := ["full", "great", "asked", "k"]) (sc := defScope s_law_long_right) (by decide +kernel)) (fun _ _ _ _ _ => (pg_name (i := 3) sc_law_long_right.nd rfl (by first | exact Or.inl rfl | exact Or.inr rfl))) (fun _ _ _ _ _ => pts_nil) (fun _ _ _ _ _ => (pe_tup (pa_cons (pe_ix (ix_listK (K := K) rfl) (pe_lst (pa_cons pe_str (pa_cons pe_str pa_nil))) (pe_op op_mod (pv 3) pe_int) (fun _ _ => rfl)) (pa_cons pe_int pa_nil)))))
    (pss_cons (ps_set (i := 1) sc_law_long_right.nd rfl (by first | exact Or.inl rfl | exact Or.inr rfl) (pe_lst (pa_cons (pe_tup (pa_cons pe_str (pa_cons (pe_op op_pow pe_int pe_int) pa_nil))) pa_nil)))
    (pss_cons (ps_set (i := 2) sc_law_long_right.nd rfl (by first | exact Or.inl rfl | exact Or.inr rfl) (pe_lst (pa_cons (pe_callH G_law_asked (hr.mono (by omega)) (by rfl) (pa_cons pe_int (pa_cons (pv 0) (pa_cons (pe_lst (pa_cons (pe_tup (pa_cons pe_str (pa_cons pe_int pa_nil))) pa_nil)) (pa_cons pe_int pa_nil))))) (pa_cons (pe_callH G_law_asked (hr.mono (by omega)) (by rfl) (pa_cons pe_int (pa_cons (pv 1) (pa_cons (pe_lst (pa_cons (pe_tup (pa_cons pe_str (pa_cons pe_int pa_nil))) pa_nil)) (pa_cons pe_int pa_nil))))) (pa_cons (pe_callH G_law_asked (hr.mono (by omega)) (by rfl) (pa_cons pe_int (pa_cons (pe_lst (pa_cons (pe_tup (pa_cons pe_str (pa_cons pe_int pa_nil))) pa_nil)) (pa_cons pe_int (pa_cons pe_int pa_nil))))) pa_nil)))))
    (pss_cons (ps_set (i := 2) sc_law_long_right.nd rfl (by first | exact Or.inl rfl | exact Or.inr rfl) (pe_op op_cat (pv 2) (pe_lst (pa_cons (pe_callH G_law_asked (hr.mono (by omega)) (by rfl) (pa_cons pe_int (pa_cons (pv 0) (pa_cons (pe_lst (pa_cons (pe_tup (pa_cons pe_str (pa_cons pe_int pa_nil))) pa_nil)) (pa_cons pe_int pa_nil))))) (pa_cons (pe_callH G_law_asked (hr.mono (by omega)) (by rfl) (pa_cons pe_int (pa_cons (pe_lst (pa_cons (pe_tup (pa_cons pe_str (pa_cons (pe_op op_sub (pe_op op_pow pe_int pe_int) pe_int) pa_nil))) pa_nil)) (pa_cons (pe_lst (pa_cons (pe_tup (pa_cons pe_str (pa_cons pe_int pa_nil))) pa_nil)) (pa_cons pe_int pa_nil))))) pa_nil)))))
    (pss_cons (ps_if (pt_cmpR (op_neD hr.units) (pv 2) (pe_lst (pa_cons pe_str (pa_cons pe_str (pa_cons pe_str (pa_cons pe_str (pa_cons pe_str pa_nil)))))) (nomark _)) (pss_one (ps_ret pe_bl)) pss_nil)
    (pss_one (ps_ret (pe_and (pe_cmpR (op_eqD hr.units) (pe_callH G_joined (hr.mono (by omega)) (by rfl) (pa_cons (pv 0) (pa_cons (pe_lst (pa_cons (pe_tup (pa_cons pe_str (pa_cons pe_int pa_nil))) pa_nil)) pa_nil))) (pe_op op_cat (pe_slice sl_list (pv 0) po_none (po_some (pe_un un_neg pe_int))) (pe_lst (pa_cons (pe_tup (pa_cons pe_str (pa_cons pe_int pa_nil))) pa_nil))) (nomark _)) (pe_one (pe_cmpR op_eq (pe_ix ix_list (pe_callH G_items_of (hr.mono (by omega)) (by rfl) (pa_cons (pv 0) pa_nil)) (pe_un un_neg pe_int) (fun _ _ => rfl)) pe_str (nomark _))))))))))), ?_⟩
    refine ⟨400, rfl, by decide, by decide, fun L nL => lc_range (lo := 0) (n := 400) (fun i H' => Same H H' ∧ ∃ ys, H' L = some (.lst ys) ∧ Paired (RunV H') ys (fullR.take i)) ⟨same_upd nL, [], upd_same, .nil⟩ (fun i H1 hi hP => ?_) (fun H1 hP => ?_)⟩
    · obtain ⟨sm, ys, hL, hy⟩ := hP
      have hi : i < 400 := hi
      have ly : ys.length ≤ 400 := by
        have := Paired.len hy
        rw [List.length_take] at this
        omega
      have atAB : atI [V.str "a", .str "b"] ((0 + (i : Int)) % 2) = some (.str (if i % 2 = 0 then ("a" : Str) else "b")) := by
        rcases (show i % 2 = 0 ∨ i % 2 = 1 by omega) with e | e
        · rw [if_pos e, show (0 + (i : Int)) % 2 = 0 by omega]
          rfl
        · rw [if_neg (by omega), show (0 + (i : Int)) % 2 = 1 by omega]
          rfl
      refine ⟨rfl, yesT ⟨(by show 2 ≤ sizeLine; decide), fun t nt => ⟨_, rfl, _, _, rfl, rfl, (show (0 : Int) < 2 by decide), t, _, _, _, rfl, rfl, .of upd_same, atAB, (by show 2 ≤ sizeLine; decide), fun u nu => ⟨_, same_upd nu _ _ (same_upd nt _ _ hL), small (by omega), same_grow nL (sm.trans ((same_upd nt).trans (same_upd nu))), _, upd_same, ?_⟩⟩⟩⟩
      rw [take_snoc (full_get hi)]
      have hL2 := same_upd (o := .tup [.str (if i % 2 = 0 then ("a" : Str) else "b"), .int 1]) nu _ _ (same_upd (o := .lst [.str "a", .str "b"]) nt _ _ hL)
      exact Paired.app (prs_grow hL2 (prs_same ((same_upd nt).trans (same_upd nu)) hy)) (.cons (RunV.grow hL2 ⟨u, rfl, upd_same⟩) .nil)
    obtain ⟨s1, ys, hL, hy⟩ := hP
    rw [List.take_of_length_le (Nat.le_of_ble_eq_true rfl)] at hy
    have rF : Rp H1 (.ref L) fullD := rp_runs ⟨ys, hL, hy⟩
    have lF : Runs H1 L fullR := ⟨ys, hL, hy⟩
    -- great
    refine gset_go (σ' := [some (.ref L), none, none, none]) rfl (nx_go ?_)
    refine lit_set (d := oneD "a" ((10 : Int) ^ ((30 : Int).toNat))) (lit_lst (lits_cons (lit_tup (lits_cons lit_str (lits_cons (lit_val (v := .int ((10 : Int) ^ ((30 : Int).toNat))) (fun H Q q => ⟨_, _, rfl, rfl, ⟨by decide, by decide, by decide⟩, q⟩) (fun H => .int _)) lits_nil)) (Nat.le_of_ble_eq_true rfl)) lits_nil) (Nat.le_of_ble_eq_true rfl)) (fun H2 gv s2 rG => ?_)
    refine set_go (σ' := [some (.ref L), some gv, none, none]) rfl ?_
    have sA := s1.trans s2
    have rF := rF.same s2
    have lF := lF.same s2
    have rp1 : ∀ {z : Str} {n : Int} {Hx : Hp} {t l : Addr}, (upd Hx t (.tup [.str z, .int n])) l = none → Rp (upd (upd Hx t (.tup [.str z, .int n])) l (.lst [.ref t])) (.ref l) (oneD z n) := fun m => .lst upd_same (.cons (.tup (same_upd m _ _ upd_same) (.cons (.str _) (.cons (.int _) .nil))) .nil)
    refine ⟨_, rfl, (by show 2 ≤ sizeLine; decide), fun t n => ⟨(by show 1 ≤ sizeLine; decide), fun l m => ?_⟩⟩
    have sB := (same_upd (o := .tup [.str "a", .int 1]) n).trans (same_upd (o := .lst [.ref t]) m)
    refine ⟨4, _, _, _, _, _, _, _, rfl, rF.same sB, rp1 m, .int 0, er1, fun H3 s3 => ?_⟩
    have sB := sB.trans s3
    have sA := sA.trans sB
    have rF := rF.same sB
    have lF := lF.same sB
    have rG := rG.same sB
    refine ⟨_, rfl, (by show 2 ≤ sizeLine; decide), fun t n => ⟨(by show 1 ≤ sizeLine; decide), fun l m => ?_⟩⟩
    have sB := (same_upd (o := .tup [.str "a", .int 1]) n).trans (same_upd (o := .lst [.ref t]) m)
    refine ⟨4, _, _, _, _, _, _, _, rfl, rG.same sB, rp1 m, .int 0, er2, fun H4 s3 => ?_⟩
    have sB := sB.trans s3
    have sA := sA.trans sB
    have rF := rF.same sB
    have lF := lF.same sB
    have rG := rG.same sB
    refine ⟨(by show 2 ≤ sizeLine; decide), fun t n => ⟨(by show 1 ≤ sizeLine; decide), fun l m => ?_⟩⟩
    have sB := (same_upd (o := .tup [.str "a", .int 401]) n).trans (same_upd (o := .lst [.ref t]) m)
    refine ⟨6, _, _, _, _, _, _, _, rfl, rp1 m, .int 0, .int 0, er3, fun H5 s3 => ?_⟩
    have sB := sB.trans s3
    have sA := sA.trans sB
    have rF := rF.same sB
    have lF := lF.same sB
    have rG := rG.same sB
    refine ⟨(by show 3 ≤ sizeLine; decide), fun A1 nA => ?_⟩
    have sB := same_upd (o := .lst [.str "TooLong", .str "TooLong", .str "TooLong"]) nA
    have hA : (upd H5 A1 (.lst [.str "TooLong", .str "TooLong", .str "TooLong"])) A1 = some (.lst [.str "TooLong", .str "TooLong", .str "TooLong"]) := upd_same
    have sA := sA.trans sB
    have rF := rF.same sB
    have lF := lF.same sB
    have rG := rG.same sB
    refine ⟨_, rfl, ?_⟩
    refine ⟨_, rfl, (by show 2 ≤ sizeLine; decide), fun t n => ⟨(by show 1 ≤ sizeLine; decide), fun l m => ?_⟩⟩
    have sB := (same_upd (o := .tup [.str "b", .int 1]) n).trans (same_upd (o := .lst [.ref t]) m)
    refine ⟨4, _, _, _, _, _, _, _, rfl, rF.same sB, rp1 m, .int 0, er4, fun H6 s3 => ?_⟩
    have sB := sB.trans s3
    have sA := sA.trans sB
    have rF := rF.same sB
    have lF := lF.same sB
    have rG := rG.same sB
    have hA := sB _ _ hA
    refine ⟨_, _, rfl, rfl, ⟨by decide, by decide, by decide⟩, _, _, rfl, rfl, (by show 2 ≤ sizeLine; decide), fun t n => ⟨(by show 1 ≤ sizeLine; decide), fun l m => ⟨(by show 2 ≤ sizeLine; decide), fun t' n' => ⟨(by show 1 ≤ sizeLine; decide), fun l' m' => ?_⟩⟩⟩⟩
    have sC := (same_upd (o := .tup [.str "a", .int 1]) n').trans (same_upd (o := .lst [.ref t']) m')
    have sB := ((same_upd (o := .tup [.str "a", .int ((10 : Int) ^ ((30 : Int).toNat) - 1)]) n).trans (same_upd (o := .lst [.ref t]) m)).trans sC
    refine ⟨4, _, _, _, _, _, _, _, rfl, (rp1 m).same sC, rp1 m', .int 0, er5, fun H7 s3 => ?_⟩
    have sB := sB.trans s3
    have sA := sA.trans sB
    have rF := rF.same sB
    have lF := lF.same sB
    have rG := rG.same sB
    have hA := sB _ _ hA
    refine ⟨(by show 2 ≤ sizeLine; decide), fun A2 nA2 => ⟨A1, A2, _, _, rfl, rfl, same_upd nA2 _ _ hA, upd_same, smallE (by decide), fun A3 nA3 => ?_⟩⟩
    have sB := (same_upd (o := .lst [.str "none", .str "none"]) nA2).trans (same_upd (o := .lst ([V.str "TooLong", .str "TooLong", .str "TooLong"] ++ [V.str "none", .str "none"])) nA3)
    have sA := sA.trans sB
    have lF := lF.same sB
    have h3 : (upd (upd H7 A2 (.lst [.str "none", .str "none"])) A3 (.lst ([V.str "TooLong", .str "TooLong", .str "TooLong"] ++ [V.str "none", .str "none"]))) A3 = some (.lst ([V.str "TooLong", .str "TooLong", .str "TooLong"] ++ [V.str "none", .str "none"])) := upd_same
    obtain ⟨H8, eH⟩ : ∃ Hx, (upd (upd H7 A2 (.lst [.str "none", .str "none"])) A3 (.lst ([V.str "TooLong", .str "TooLong", .str "TooLong"] ++ [V.str "none", .str "none"]))) = Hx := ⟨_, rfl⟩
    rw [eH] at sA lF h3 ⊢
    refine ⟨_, rfl, (by show 5 ≤ sizeLine; decide), fun A4 n4 => ?_⟩
    have s4 := same_upd (o := .lst [V.str "TooLong", .str "TooLong", .str "TooLong", .str "none", .str "none"]) n4
    refine ⟨.list [.str "TooLong", .str "TooLong", .str "TooLong", .str "none", .str "none"], .list [.str "TooLong", .str "TooLong", .str "TooLong", .str "none", .str "none"], .lst (.of (s4 _ _ h3)) (.cons (.str _) (.cons (.str _) (.cons (.str _) (.cons (.str _) (.cons (.str _) .nil))))), .lst (.of upd_same) (.cons (.str _) (.cons (.str _) (.cons (.str _) (.cons (.str _) (.cons (.str _) .nil))))), by decide +kernel, by decide +kernel, _, rfl, iteN (by decide +kernel) ?_⟩
    have sA := sA.trans s4
    have lF := lF.same s4
    have okF := (seq_rp (rp_runs lF) full_seq.1).2
    rw [show (Dat.lst (fullR.map dR)).runs = fullR from runs_dR fullR] at okF
    refine ⟨_, rfl, (by show 2 ≤ sizeLine; decide), fun t n => ⟨(by show 1 ≤ sizeLine; decide), fun l m => ?_⟩⟩
    have sB := (same_upd (o := .tup [.str "b", .int 1]) n).trans (same_upd (o := .lst [.ref t]) m)
    have hb := seq_rp (rp1 m) one_ok.2.1
    have lF := lF.same sB
    have sA := sA.trans sB
    refine ⟨_, _, fullR, [("b", 1)], rfl, lF.dress, okF, hb.1, hb.2, jn1.2.1, jn1.2.2, fun H9 p s9 np hp => ?_⟩
    have lF := lF.same s9
    have sA := sA.trans s9
    obtain ⟨zs, hz, hzp⟩ := hp
    obtain ⟨fs, hf, hfp⟩ := lF
    have lfs : fs.length = 400 := (Paired.len hfp).trans (by decide +kernel)
    have lF : Runs H9 L fullR := ⟨fs, hf, hfp⟩
    rw [jn1.1] at hzp
    have ec : cutV fs none (some (-1)) = fs.take 399 := by
      unfold cutV
      rw [lfs]
      rfl
    refine ⟨_, rfl, 1, rfl, -1, rfl, L, fs, rfl, .of hf, fun p2 n2 => ?_⟩
    rw [ec]
    refine ⟨(by show 2 ≤ sizeLine; decide), fun t2 nt2 => ⟨(by show 1 ≤ sizeLine; decide), fun l2 nl2 => ?_⟩⟩
    have q1 := same_upd (o := .lst (fs.take 399)) n2
    have q2 := same_upd (o := .tup [.str "b", .int 2]) nt2
    have q3 := same_upd (o := .lst [.ref t2]) nl2
    refine ⟨p2, l2, _, _, rfl, rfl, q3 _ _ (q2 _ _ upd_same), upd_same, smallE (by rw [List.length_take]; show min 399 fs.length + 1 ≤ _; omega), fun p3 n3 => ?_⟩
    have q4 := same_upd (o := .lst (fs.take 399 ++ [.ref t2])) n3
    have sB := q1.trans (q2.trans (q3.trans q4))
    have kF : ∀ r ∈ fullR.take 399 ++ ([("b", 2)] : List Run), KindOk r.1 := full_kinds
    refine ⟨.list ((fullR.take 399 ++ ([("b", 2)] : List Run)).map dRun), .list ((fullR.take 399 ++ ([("b", 2)] : List Run)).map dRun), .lst (.of (sB _ _ hz)) (dp_all (prs_same sB hzp)), .lst (.of upd_same) (dp_all (Paired.app (prs_same sB (p_take 399 hfp)) (.cons ⟨t2, rfl, q4 _ _ (q3 _ _ upd_same)⟩ .nil))), shaped_runs kF, shaped_runs kF, ?_⟩
    rw [eqv_runs]
    refine ⟨true, rfl, iteT ?_⟩
    refine ⟨_, rfl, _, fullR, rfl, (lF.same sB).dress, okF, full_len, fun HA pA sC nA hpA => ?_⟩
    exact ⟨1, rfl, pA, _, _, _, rfl, rfl, .of hpA, full_last, rfl, q _ (sA.trans (sB.trans sC))⟩
end
end UP

set_option Elab.async false
set_option linter.all false
set_option maxRecDepth 100000
set_option maxHeartbeats 40000000
set_option pp.maxSteps 200
namespace UP
open PySem PySem.Spec PyProof.Rows L2
theorem pe_call0H {x : Str} (G : Has X.prog X.w X.K X.mg X.base k x ps sp) (hr : Room k X.A) (hg : Gl X x) (hdb : (x == ("__debug__" : Str)) = false := by decide) :
    PE X (.Call (.Name x p) [] [] pos) (tCall sp [] E0 tNil) := by
  obtain ⟨f, fd, g, kp, b, F⟩ := G
  exact pe_call0 F hr hg g kp b .nil pass0 hdb
section
variable {P : Program} {w : World} {K : PySem.W.Frag} {mg : Str → Option Value} {base : Heap}
/-! law: slots 0:script 1:spring 2:turn 3:sequence 4:row 5:before -/
abbrev s_law : Stmt := topS 58
theorem sc_law : FnScope ["script", "spring", "turn", "sequence", "row", "before"] ["script"] (defScope s_law) := ⟨rfl, rfl, rfl, by decide +kernel, rfl, by decide +kernel, by decide +kernel⟩
def sp_law (K : PySem.W.Frag) : Sp := fun vs H Q _ => ∃ (a : Addr) (ns : List Int), vs = [.ref a] ∧ SqL K H a (ns.map V.int) ∧ ns.length ≤ 63 ∧ ∀ H', Q (.bl true) H'
theorem fn_law {f : Addr} {fd : FuncData} (F : Fun K "law" "law" s_law f fd) (T : Tx mg)
    (G_law_spring : Has P w K mg base 1 "_law_spring" ["script"] (sp_law_spring K)) (G_law_draw : Has P w K mg base 1 "_law_draw" ["spring", "many"] sp_law_draw)
    (G_law_sequence : Has P w K mg base 2 "_law_sequence" ["spring", "most", "longest"] sp_law_sequence)
    (G_law_rows : Has P w K mg base 3 "_law_rows" ["spring", "sequence"] sp_law_rows) (G_law_asked : Has P w K mg base 8 "_law_asked" ["ask", "one", "other", "third"] sp_law_asked)
    (G_law_long_right : Has P w K mg base 9 "_law_long_right" [] sp_law_long_right) (G_law_classes_right : Has P w K mg base 6 "_law_classes_right" [] sp_law_classes_right) :
    FnC P w K mg base f fd ["script"] (sp_law K) := by
  refine fnC_of F sc_law (fun vs H Q E h => ?_) (fun cdv outer s H vs Q E hr h => ?_)
  · obtain ⟨_, _, rfl, _⟩ := h
    rfl
  · obtain ⟨a, ns, rfl, hS, l63, q⟩ := h
    have hr := Room.deeper (show Room (10 + 1) callerA from ⟨rfl, by decide, by decide⟩) (envOfC "law" (defScope s_law) s.heap.objs.size f cdv)
    refine ⟨_, (pss_cons (ps_set (i := 1) sc_law.nd rfl (by first | exact Or.inl rfl | exact Or.inr rfl) (pe_callH G_law_spring (hr.mono (by omega)) (by rfl) (pa_cons (pv 0) pa_nil)))
    (pss_cons (ps_for PassesOwn.never rfl (pi_range1 (by rfl) T.n_range (pa_cons (pe_op op_add pe_int (pe_callB (call_min2 rfl) (by rfl) T.n_min (by decide +kernel) (pa_cons (pe_callB call_len_seq (by rfl) T.n_len (by decide +kernel) (pa_cons (pv 0) pa_nil)) (pa_cons pe_int pa_nil)))) pa_nil)) (pg_name (i := 2) sc_law.nd rfl (by first | exact Or.inl rfl | exact Or.inr rfl))
      (pss_cons (ps_set (i := 3) sc_law.nd rfl (by first | exact Or.inl rfl | exact Or.inr rfl) (pe_callH G_law_sequence (hr.mono (by omega)) (by rfl) (pa_cons (pv 1) (pa_cons pe_int (pa_cons (pe_ix ix_list (pe_lst (pa_cons pe_int (pa_cons pe_int (pa_cons (pe_op op_pow pe_int pe_int) pa_nil)))) (pe_callH G_law_draw (hr.mono (by omega)) (by rfl) (pa_cons (pv 1) (pa_cons pe_int pa_nil))) (fun _ _ => rfl)) pa_nil)))))
    (pss_one (ps_for PassesOwn.never rfl (pi_list (pe_callH G_law_rows (hr.mono (by omega)) (by rfl) (pa_cons (pv 1) (pa_cons (pv 3) pa_nil)))) (pg_name (i := 4) sc_law.nd rfl (by first | exact Or.inl rfl | exact Or.inr rfl))
      (pss_cons (ps_set (i := 5) sc_law.nd rfl (by first | exact Or.inl rfl | exact Or.inr rfl) (pe_callB (call_reprR (by rfl) (room70 hr)) (by rfl) T.n_repr (by decide +kernel) (pa_cons (pv 4) pa_nil)))
    (pss_one (ps_if (PW.pt (pw_or (pt_cmpR op_ne (pe_callH G_law_asked (hr.mono (by omega)) (by rfl) (pa_cons (pe_ix ix_tup (pv 4) pe_int (fun _ _ => rfl)) (pa_cons (pe_ix ix_tup (pv 4) pe_int (fun _ _ => rfl)) (pa_cons (pe_ix ix_tup (pv 4) pe_int (fun _ _ => rfl)) (pa_cons (pe_ix ix_tup (pv 4) pe_int (fun _ _ => rfl)) pa_nil))))) (pe_ix ix_tup (pv 4) pe_int (fun _ _ => rfl)) (nomark _)) (pw_or1 (pt_cmpR op_ne (pe_callB (call_reprR (by rfl) (room70 hr)) (by rfl) T.n_repr (by decide +kernel) (pa_cons (pv 4) pa_nil)) (pv 5) (nomark _))))) (pss_one (ps_ret pe_bl)) pss_nil)))))))
    (pss_one (ps_ret (pe_and (pe_call0H G_law_long_right (hr.mono (by omega)) (by rfl)) (pe_one (pe_call0H G_law_classes_right (hr.mono (by omega)) (by rfl)))))))), ?_⟩
    refine ⟨_, rfl, a, ns, rfl, hS, l63, fun H1 sp s1 nsp z1 => ?_⟩
    refine ⟨_, rfl, a, _, rfl, .inl (s1.seq hS), _, _, rfl, _, _, rfl, rfl, _, rfl, ?_, ?_, for_range (lo := 0) (n := _) (fun i σ H' => ∃ y2 y3 y4 y5, σ = [some (.ref a), some (.ref sp), y2, y3, y4, y5] ∧ Spr H' sp)
      ⟨none, none, none, none, rfl, z1⟩ (fun i σ H2 hi hP => ?_) (fun σ H2 hP => ?_)⟩
    · rw [List.length_map]
      split <;> omega
    · rw [List.length_map]
      split <;> omega
    · obtain ⟨y2, y3, y4, y5, rfl, z2⟩ := hP
      clear z1
      refine ⟨_, rfl, _, _, rfl, rfl, ⟨by decide, by decide, by decide⟩, (by show 3 ≤ sizeLine; decide), fun l nl => ⟨_, rfl, sp, 3, rfl, z2.same (same_upd nl), by decide, by decide, fun H3 r3 b3 z3 r30 r31 => ?_⟩⟩
      obtain ⟨g, eg, g1, g2⟩ : ∃ g, atI [V.int 9, .int 100, .int ((10 : Int) ^ ((30 : Int).toNat))] r3 = some (.int g) ∧ 1 ≤ g ∧ g ≤ 1000000000000000000000000000000 := by
        rw [q30]
        rcases (show r3 = 0 ∨ r3 = 1 ∨ r3 = 2 by omega) with e | e | e
        · rw [e]; exact ⟨9, rfl, by decide, by decide⟩
        · rw [e]; exact ⟨100, rfl, by decide, by decide⟩
        · rw [e]; exact ⟨_, rfl, by decide, by decide⟩
      refine ⟨l, _, r3, _, rfl, rfl, .of (b3 _ _ (Spr.ne z2 nl) upd_same), eg, ?_⟩
      refine ⟨sp, 6, g, rfl, z3, by decide, by decide, g1, g2, fun H4 p rs b4 z4 np hR ok lm lg => ?_⟩
      have lr : rs.length ≤ 6 := by omega
      refine ⟨_, rfl, _, rfl, sp, p, rs, rfl, z4, hR, ok, lr, fun H5 L rows b5 z5 rR kR => ?_⟩
      obtain ⟨xs, hL, pR⟩ : ∃ xs, H5 L = some (.lst xs) ∧ Paired (Rp H5) xs rows := by
        cases rR with
        | lst e p => exact ⟨_, e, p⟩
      clear rR b5 b4 b3 np hR nl lm lg eg z3 z4 z2
      refine ⟨L, rfl, ⟨xs, .of hL⟩, for_list (K := K) (a := L) (xs := xs) (fun i σ H' => ∃ y2 y3 y4 y5, σ = [some (.ref a), some (.ref sp), y2, y3, y4, y5] ∧ Same H5 H') ⟨_, _, _, _, rfl, Same.refl _⟩ (fun i σ H' _ hP => ?_) (fun i x σ H6 ex hP => ?_) (fun σ H6 hP => ?_)⟩
      · obtain ⟨_, _, _, _, _, s6⟩ := hP
        exact .of (s6 _ _ hL)
      · obtain ⟨w2, w3, w4, w5, rfl, s6⟩ := hP
        obtain ⟨row, er, hr1⟩ := Paired.at pR ex
        obtain ⟨k, A, B, C, due, rfl, he, _, nR⟩ := kR row (List.mem_of_getElem? er)
        have hr1 := hr1.same s6
        have nR := nR.fits (by decide) (by decide)
        obtain ⟨k1, k2, k3⟩ := nR
        have hrow := hr1
        cases hr1 with
        | tup e p =>
          cases p with
          | cons h0 p =>
            cases h0
            cases p with
            | cons hA p =>
              cases p with
              | cons hB p =>
                cases p with
                | cons hC p =>
                  cases p with
                  | cons hd p =>
                    cases hd
                    cases p
                    refine ⟨_, rfl, _, _, rfl, hrow, k1, k2, k3, ?_⟩
                    refine ⟨_, rfl, _, _, 0, _, rfl, rfl, .of e, rfl, _, rfl, _, _, 1, _, rfl, rfl, .of e, rfl, _, rfl, _, _, 2, _, rfl, rfl, .of e, rfl, _, rfl, _, _, 3, _, rfl, rfl, .of e, rfl, k, _, _, _, A, B, C, due, rfl, hA, hB, hC, he, fun H7 s7 => ?_⟩
                    refine ⟨_, rfl, _, _, 4, _, rfl, rfl, .of (s7 _ _ e), rfl, rfl, _, rfl, iteN (by rw [decide_eq_true rfl]; rfl) ?_⟩
                    refine ⟨_, rfl, _, _, rfl, hrow.same s7, k1, k2, k3, _, rfl, rfl, _, rfl, iteN (by rw [decide_eq_true rfl]; rfl) ?_⟩
                    exact ⟨_, _, _, _, rfl, s6.trans s7⟩
      · obtain ⟨w2, w3, w4, w5, rfl, s6⟩ := hP
        exact ⟨_, _, _, _, rfl, z5.same s6⟩
    · obtain ⟨y2, y3, y4, y5, rfl, z2⟩ := hP
      exact ⟨rfl, fun H3 s3 => ⟨true, rfl, iteT ⟨rfl, fun H4 s4 => q _⟩⟩⟩
end
end UP

set_option Elab.async false
set_option linter.all false
set_option maxRecDepth 100000
set_option maxHeartbeats 4000000
namespace UP
open PySem PySem.Spec PyProof.Rows L2
section
variable {K : PySem.W.Frag} {h : Heap} {mg : Str → Option Value}
theorem df_mk {x : Str} {st : Stmt} {f : Addr} {od an : Option Addr} {sl : Array (Option Value)} {oc kV dc pm cd ct : Value} (X : K.In h) (G : h.Ns mainGlobals mg) (a : PySem.W.nsIn K mainGlobals x = some (some (.ref f)))
    (l : K.lookup f = some ⟨oc, od, .func (PySem.W.fnOf x x (defArgs st) (defBody st) (defScope st) .none kV dc pm an cd ct), sl⟩) (c : PySem.W.codeIn K cd x = true) (k : PySem.W.keepIn K (.ref f) = true) : Df K mg x st :=
  ⟨f, _, PySem.W.mg_of X G a, fun_mk l c k⟩
theorem dfd_mk {x : Str} {st : Stmt} {f T : Addr} {od an od2 : Option Addr} {sl sl2 : Array (Option Value)} {n2 : Nat} {oc kV dc pm cd ct oc2 : Value} (X : K.In h) (G : h.Ns mainGlobals mg) (a : PySem.W.nsIn K mainGlobals x = some (some (.ref f)))
    (l : K.lookup f = some ⟨oc, od, .func (PySem.W.fnOf x x (defArgs st) (defBody st) (defScope st) (.ref T) kV dc pm an cd ct), sl⟩) (t : K.lookup T = some ⟨oc2, od2, .seq #[.none] n2, sl2⟩) (c : PySem.W.codeIn K cd x = true) (k : PySem.W.keepIn K (.ref f) = true) : DfD K mg x st [.non] :=
  ⟨f, _, PySem.W.mg_of X G a, ⟨⟨oc, od, _, kV, dc, pm, an, cd, ct, sl, rfl, l, c, .inr ⟨(by intro z; cases z), T, _, [.none], n2, rfl, t, rfl, .cons rfl .nil⟩, .inl rfl⟩, k⟩⟩
theorem cst_mk {x : Str} {i : Int} {t : Tok} (X : K.In h) (G : h.Ns mainGlobals mg) (a : PySem.W.nsIn K mainGlobals x = some (some (.int i t))) : ∃ t, mg x = some (.int i t) := ⟨t, PySem.W.mg_of X G a⟩
end
/-! ### the classes -/
def CA (mg : Str → Option Value) (n : Str) : Addr := match mg n with
  | some (.ref C) => C
  | _ => 0
theorem ca_of {mg : Str → Option Value} {n : Str} {C : Addr} (h : mg n = some (.ref C)) : CA mg n = C := by
  unfold CA
  rw [h]
def P2 (K : PySem.W.Frag) (mg : Str → Option Value) (nm n : Str) (r : Bool) : Prop := ∃ D C, mg nm = some (.ref D) ∧ mg n = some (.ref C) ∧ PySem.W.kitOne K (.ref D) (.ref C) = some r
def P1 (K : PySem.W.Frag) (mg : Str → Option Value) (nm : Str) : Prop := ∃ D B, mg nm = some (.ref D) ∧ mg "PairError" = some (.ref B) ∧ Ex K mg nm D ∧ ExcC K D ∧ PySem.W.exmOne K (.ref D) (.ref B) = some true ∧ PySem.W.kitOne K (.ref D) (.ref B) = some true ∧ PySem.W.kitOne K (.ref D) (.type "ValueError") = some true
section
variable {K : PySem.W.Frag} {h : Heap} {mg : Str → Option Value}
theorem p2_mk {nm n : Str} {r : Bool} {D C : Addr} (X : K.In h) (G : h.Ns mainGlobals mg) (a : PySem.W.nsIn K mainGlobals nm = some (some (.ref D))) (b : PySem.W.nsIn K mainGlobals n = some (some (.ref C))) (k : PySem.W.kitOne K (.ref D) (.ref C) = some r) : P2 K mg nm n r := ⟨D, C, PySem.W.mg_of X G a, PySem.W.mg_of X G b, k⟩
theorem p1_mk {nm : Str} {D B : Addr} (X : K.In h) (G : h.Ns mainGlobals mg) (a : PySem.W.nsIn K mainGlobals nm = some (some (.ref D))) (b : PySem.W.nsIn K mainGlobals "PairError" = some (some (.ref B)))
    (x : PySem.W.excIn K D [.type "ValueError", .type "Exception", .type "BaseException", .type "object"] "ValueError.__new__" = true) (k : PySem.W.keepIn K (.ref D) = true) (bs : PySem.W.subIn K (.ref D) (.type "BaseException") = some true) (t : PySem.W.typeIn K (.ref D) = some (.type "type"))
    (e1 : PySem.W.findIn K (.ref D) "__getattribute__" = some (some (.builtin "BaseException.__getattribute__"))) (e2 : PySem.W.findIn K (.ref D) "__getattr__" = some none) (e3 : PySem.W.hasDictIn K D = true) (e4 : PySem.W.findIn K (.ref D) "__class__" = some (some (.builtin "object.__class__")))
    (e5 : PySem.W.specialIn K (.builtin "object.__class__") "__get__" = some (some (.builtin "getset_descriptor.__get__"))) (e6 : PySem.W.takesIn K (.builtin "object.__class__") = some true) (e7 : PySem.W.mroIn K D (.type "object") = some true)
    (m : PySem.W.exmOne K (.ref D) (.ref B) = some true) (k1 : PySem.W.kitOne K (.ref D) (.ref B) = some true) (k2 : PySem.W.kitOne K (.ref D) (.type "ValueError") = some true) : P1 K mg nm :=
  ⟨D, B, PySem.W.mg_of X G a, PySem.W.mg_of X G b, ⟨PySem.W.mg_of X G a, x, k, bs, t⟩, ⟨e1, e2, bs, e3, e4, e5, e6, e7⟩, m, k1, k2⟩
theorem clsF_of {nm : Str} (h : P1 K mg nm) (k : ∀ n, n ∈ six ++ (oddA ++ oddB) → P2 K mg nm n (decide (n = nm))) : ClsF K (CA mg) nm ∧ Ex K mg nm (CA mg nm) := by
  obtain ⟨D, B, g, gb, ex, ec, m, k1, k2⟩ := h
  have eD := ca_of g
  have eB := ca_of gb
  refine ⟨⟨by rw [eD]; exact ec, by rw [eD, eB]; exact m, fun n hn => ?_, by rw [eD, eB]; exact k1, by rw [eD]; exact k2⟩, by rw [eD]; exact ex⟩
  obtain ⟨D', C, g', gc, kk⟩ := k n hn
  rw [g] at g'
  cases g'
  rw [eD, ca_of gc]
  exact kk
def P0 (K : PySem.W.Frag) (mg : Str → Option Value) (nm : Str) : Prop := ∃ D B, mg nm = some (.ref D) ∧ mg "PairError" = some (.ref B) ∧ ExcC K D ∧ PySem.W.exmOne K (.ref D) (.ref B) = some true ∧ PySem.W.kitOne K (.ref D) (.ref B) = some true ∧ PySem.W.kitOne K (.ref D) (.type "ValueError") = some true
theorem p0_mk {nm : Str} {D B : Addr} (X : K.In h) (G : h.Ns mainGlobals mg) (a : PySem.W.nsIn K mainGlobals nm = some (some (.ref D))) (b : PySem.W.nsIn K mainGlobals "PairError" = some (some (.ref B)))
    (bs : PySem.W.subIn K (.ref D) (.type "BaseException") = some true)
    (e1 : PySem.W.findIn K (.ref D) "__getattribute__" = some (some (.builtin "BaseException.__getattribute__"))) (e2 : PySem.W.findIn K (.ref D) "__getattr__" = some none) (e3 : PySem.W.hasDictIn K D = true) (e4 : PySem.W.findIn K (.ref D) "__class__" = some (some (.builtin "object.__class__")))
    (e5 : PySem.W.specialIn K (.builtin "object.__class__") "__get__" = some (some (.builtin "getset_descriptor.__get__"))) (e6 : PySem.W.takesIn K (.builtin "object.__class__") = some true) (e7 : PySem.W.mroIn K D (.type "object") = some true)
    (m : PySem.W.exmOne K (.ref D) (.ref B) = some true) (k1 : PySem.W.kitOne K (.ref D) (.ref B) = some true) (k2 : PySem.W.kitOne K (.ref D) (.type "ValueError") = some true) : P0 K mg nm :=
  ⟨D, B, PySem.W.mg_of X G a, PySem.W.mg_of X G b, ⟨e1, e2, bs, e3, e4, e5, e6, e7⟩, m, k1, k2⟩
theorem clsF0_of {nm : Str} (h : P0 K mg nm) (k : ∀ n, n ∈ six ++ (oddA ++ oddB) → P2 K mg nm n (decide (n = nm))) : ClsF K (CA mg) nm := by
  obtain ⟨D, B, g, gb, ec, m, k1, k2⟩ := h
  have eD := ca_of g
  have eB := ca_of gb
  refine ⟨by rw [eD]; exact ec, by rw [eD, eB]; exact m, fun n hn => ?_, by rw [eD, eB]; exact k1, by rw [eD]; exact k2⟩
  obtain ⟨D', C, g', gc, kk⟩ := k n hn
  rw [g] at g'
  cases g'
  rw [eD, ca_of gc]
  exact kk
theorem own_InvalidText_mk {C fI N : Addr} {nm q : Str} {bs bm sub : List Value} {sn : List Str} {ab : Bool} {col : Option Bool} {dd : Option Addr} {k0 k1 k2 k3 k5 : Option Value} {od an : Option Addr} {sl : Array (Option Value)} {oc kV dc pm cd ct : Value} (X : K.In h) (G : h.Ns mainGlobals mg) (a : PySem.W.nsIn K mainGlobals "InvalidText" = some (some (.ref C)))
    (l : K.lookup C = some (excClassObj nm q C N bs bm true sn sub ab col dd k0 k1 k2 k3 k5 "ValueError.__new__")) (r : PySem.HandSPX.refsVE bm = true) (sa : PySem.W.findIn K (.ref C) "__setattr__" = some (some (.builtin "object.__setattr__"))) (xc : PySem.W.subIn K (.ref C) (.type "BaseException") = some true) (ty : PySem.W.typeIn K (.ref C) = some (.type "type")) (kc : PySem.W.keepIn K (.ref C) = true) (f1 : PySem.W.findIn K (.ref C) "__getattribute__" = some (some (.builtin "BaseException.__getattribute__"))) (f2 : PySem.W.findIn K (.ref C) "__getattr__" = some none) (f3 : PySem.W.hasDictIn K C = true)
    (n : PySem.W.findIn K (.ref C) "index" = some none) (ic : PySem.W.findIn K (.ref C) "__init__" = some (some (.ref fI))) (ti : PySem.W.typeIn K (.ref fI) = some (.type "function")) (fl : K.lookup fI = some ⟨oc, od, .func (PySem.W.fnOf "__init__" "InvalidText.__init__" (defArgs s_iTxt) (defBody s_iTxt) (defScope s_iTxt) .none kV dc pm an cd ct), sl⟩) (fc : PySem.W.codeIn K cd "InvalidText.__init__" = true) (fk : PySem.W.keepIn K (.ref fI) = true) : ∃ C, TxtF K mg C :=
  ⟨C, PySem.W.mg_of X G a, ⟨⟨nm, q, N, bs, bm, sn, sub, ab, col, dd, k0, k1, k2, k3, k5, l, r⟩, sa, xc, ty, kc⟩, n, ⟨f1, f2, xc, f3⟩, fI, _, ic, ti, fun_mk fl fc fk⟩
theorem own_TooMany_mk {C fI N : Addr} {nm q : Str} {bs bm sub : List Value} {sn : List Str} {ab : Bool} {col : Option Bool} {dd : Option Addr} {k0 k1 k2 k3 k5 : Option Value} {od an : Option Addr} {sl : Array (Option Value)} {oc kV dc pm cd ct : Value} (X : K.In h) (G : h.Ns mainGlobals mg) (a : PySem.W.nsIn K mainGlobals "TooMany" = some (some (.ref C)))
    (l : K.lookup C = some (excClassObj nm q C N bs bm true sn sub ab col dd k0 k1 k2 k3 k5 "ValueError.__new__")) (r : PySem.HandSPX.refsVE bm = true) (sa : PySem.W.findIn K (.ref C) "__setattr__" = some (some (.builtin "object.__setattr__"))) (xc : PySem.W.subIn K (.ref C) (.type "BaseException") = some true) (ty : PySem.W.typeIn K (.ref C) = some (.type "type")) (kc : PySem.W.keepIn K (.ref C) = true) (f1 : PySem.W.findIn K (.ref C) "__getattribute__" = some (some (.builtin "BaseException.__getattribute__"))) (f2 : PySem.W.findIn K (.ref C) "__getattr__" = some none) (f3 : PySem.W.hasDictIn K C = true)
    (n : PySem.W.findIn K (.ref C) "count" = some none) (ic : PySem.W.findIn K (.ref C) "__init__" = some (some (.ref fI))) (ti : PySem.W.typeIn K (.ref fI) = some (.type "function")) (fl : K.lookup fI = some ⟨oc, od, .func (PySem.W.fnOf "__init__" "TooMany.__init__" (defArgs s_iMan) (defBody s_iMan) (defScope s_iMan) .none kV dc pm an cd ct), sl⟩) (fc : PySem.W.codeIn K cd "TooMany.__init__" = true) (fk : PySem.W.keepIn K (.ref fI) = true) : ∃ C, ManF K mg C :=
  ⟨C, PySem.W.mg_of X G a, ⟨⟨nm, q, N, bs, bm, sn, sub, ab, col, dd, k0, k1, k2, k3, k5, l, r⟩, sa, xc, ty, kc⟩, n, ⟨f1, f2, xc, f3⟩, fI, _, ic, ti, fun_mk fl fc fk⟩
theorem own_Impossible_mk {C fI N : Addr} {nm q : Str} {bs bm sub : List Value} {sn : List Str} {ab : Bool} {col : Option Bool} {dd : Option Addr} {k0 k1 k2 k3 k5 : Option Value} {od an : Option Addr} {sl : Array (Option Value)} {oc kV dc pm cd ct : Value} (X : K.In h) (G : h.Ns mainGlobals mg) (a : PySem.W.nsIn K mainGlobals "Impossible" = some (some (.ref C)))
    (l : K.lookup C = some (excClassObj nm q C N bs bm true sn sub ab col dd k0 k1 k2 k3 k5 "ValueError.__new__")) (r : PySem.HandSPX.refsVE bm = true) (sa : PySem.W.findIn K (.ref C) "__setattr__" = some (some (.builtin "object.__setattr__"))) (xc : PySem.W.subIn K (.ref C) (.type "BaseException") = some true) (ty : PySem.W.typeIn K (.ref C) = some (.type "type")) (kc : PySem.W.keepIn K (.ref C) = true) (f1 : PySem.W.findIn K (.ref C) "__getattribute__" = some (some (.builtin "BaseException.__getattribute__"))) (f2 : PySem.W.findIn K (.ref C) "__getattr__" = some none) (f3 : PySem.W.hasDictIn K C = true)
    (n : PySem.W.findIn K (.ref C) "reason" = some none) (ic : PySem.W.findIn K (.ref C) "__init__" = some (some (.ref fI))) (ti : PySem.W.typeIn K (.ref fI) = some (.type "function")) (fl : K.lookup fI = some ⟨oc, od, .func (PySem.W.fnOf "__init__" "Impossible.__init__" (defArgs s_iImp) (defBody s_iImp) (defScope s_iImp) .none kV dc pm an cd ct), sl⟩) (fc : PySem.W.codeIn K cd "Impossible.__init__" = true) (fk : PySem.W.keepIn K (.ref fI) = true) : ∃ C, ImpF K mg C :=
  ⟨C, PySem.W.mg_of X G a, ⟨⟨nm, q, N, bs, bm, sn, sub, ab, col, dd, k0, k1, k2, k3, k5, l, r⟩, sa, xc, ty, kc⟩, n, ⟨f1, f2, xc, f3⟩, fI, _, ic, ti, fun_mk fl fc fk⟩
theorem own_Contradiction_mk {C fI N : Addr} {nm q : Str} {bs bm sub : List Value} {sn : List Str} {ab : Bool} {col : Option Bool} {dd : Option Addr} {k0 k1 k2 k3 k5 : Option Value} {od an : Option Addr} {sl : Array (Option Value)} {oc kV dc pm cd ct : Value} (X : K.In h) (G : h.Ns mainGlobals mg) (a : PySem.W.nsIn K mainGlobals "Contradiction" = some (some (.ref C)))
    (l : K.lookup C = some (excClassObj nm q C N bs bm true sn sub ab col dd k0 k1 k2 k3 k5 "ValueError.__new__")) (r : PySem.HandSPX.refsVE bm = true) (sa : PySem.W.findIn K (.ref C) "__setattr__" = some (some (.builtin "object.__setattr__"))) (xc : PySem.W.subIn K (.ref C) (.type "BaseException") = some true) (ty : PySem.W.typeIn K (.ref C) = some (.type "type")) (kc : PySem.W.keepIn K (.ref C) = true) (f1 : PySem.W.findIn K (.ref C) "__getattribute__" = some (some (.builtin "BaseException.__getattribute__"))) (f2 : PySem.W.findIn K (.ref C) "__getattr__" = some none) (f3 : PySem.W.hasDictIn K C = true)
    (n : PySem.W.findIn K (.ref C) "conflict" = some none) (ic : PySem.W.findIn K (.ref C) "__init__" = some (some (.ref fI))) (ti : PySem.W.typeIn K (.ref fI) = some (.type "function")) (fl : K.lookup fI = some ⟨oc, od, .func (PySem.W.fnOf "__init__" "Contradiction.__init__" (defArgs s_iCon) (defBody s_iCon) (defScope s_iCon) .none kV dc pm an cd ct), sl⟩) (fc : PySem.W.codeIn K cd "Contradiction.__init__" = true) (fk : PySem.W.keepIn K (.ref fI) = true) : ∃ C, ConF K mg C :=
  ⟨C, PySem.W.mg_of X G a, ⟨⟨nm, q, N, bs, bm, sn, sub, ab, col, dd, k0, k1, k2, k3, k5, l, r⟩, sa, xc, ty, kc⟩, n, ⟨f1, f2, xc, f3⟩, fI, _, ic, ti, fun_mk fl fc fk⟩
theorem cmg_of {nm : Str} (h : P1 K mg nm) (k : ∀ n, n ∈ six ++ (oddA ++ oddB) → P2 K mg nm n (decide (n = nm))) : Cmg mg (CA mg) := by
  refine ⟨fun n hn => ?_⟩
  have hn : n ∈ (six ++ (oddA ++ oddB)) ∨ n = "PairError" := by
    rcases List.mem_append.mp hn with z | z
    · exact .inl (List.mem_append.mpr (.inl z))
    · rcases List.mem_append.mp z with z | z
      · exact .inl (List.mem_append.mpr (.inr (List.mem_append.mpr (.inl z))))
      · rcases List.mem_append.mp z with z | z
        · exact .inl (List.mem_append.mpr (.inr (List.mem_append.mpr (.inr z))))
        · exact .inr (List.mem_singleton.mp z)
  rcases hn with z | z
  · obtain ⟨D, C, _, gc, _⟩ := k n z
    rw [ca_of gc]
    exact gc
  · obtain ⟨D, B, _, gb, _⟩ := h
    rw [z, ca_of gb]
    exact gb
end
/-- all that the top has written -/
structure Top (K : PySem.W.Frag) (mg : Str → Option Value) : Prop where
  T : Tx mg
  p_InvalidSequence : P1 K mg "InvalidSequence"
  k_InvalidSequence_InvalidSequence : P2 K mg "InvalidSequence" "InvalidSequence" true
  k_InvalidSequence_InvalidState : P2 K mg "InvalidSequence" "InvalidState" false
  k_InvalidSequence_InvalidPosition : P2 K mg "InvalidSequence" "InvalidPosition" false
  k_InvalidSequence_InvalidNumber : P2 K mg "InvalidSequence" "InvalidNumber" false
  k_InvalidSequence_InvalidItems : P2 K mg "InvalidSequence" "InvalidItems" false
  k_InvalidSequence_TooLong : P2 K mg "InvalidSequence" "TooLong" false
  k_InvalidSequence_Contradiction : P2 K mg "InvalidSequence" "Contradiction" false
  k_InvalidSequence_Impossible : P2 K mg "InvalidSequence" "Impossible" false
  k_InvalidSequence_InvalidCommand : P2 K mg "InvalidSequence" "InvalidCommand" false
  k_InvalidSequence_InvalidCounts : P2 K mg "InvalidSequence" "InvalidCounts" false
  k_InvalidSequence_InvalidEffects : P2 K mg "InvalidSequence" "InvalidEffects" false
  k_InvalidSequence_InvalidKind : P2 K mg "InvalidSequence" "InvalidKind" false
  k_InvalidSequence_InvalidKinds : P2 K mg "InvalidSequence" "InvalidKinds" false
  k_InvalidSequence_InvalidRecord : P2 K mg "InvalidSequence" "InvalidRecord" false
  k_InvalidSequence_InvalidText : P2 K mg "InvalidSequence" "InvalidText" false
  k_InvalidSequence_NothingToUndo : P2 K mg "InvalidSequence" "NothingToUndo" false
  k_InvalidSequence_SameEffect : P2 K mg "InvalidSequence" "SameEffect" false
  k_InvalidSequence_TooMany : P2 K mg "InvalidSequence" "TooMany" false
  p_InvalidState : P1 K mg "InvalidState"
  k_InvalidState_InvalidSequence : P2 K mg "InvalidState" "InvalidSequence" false
  k_InvalidState_InvalidState : P2 K mg "InvalidState" "InvalidState" true
  k_InvalidState_InvalidPosition : P2 K mg "InvalidState" "InvalidPosition" false
  k_InvalidState_InvalidNumber : P2 K mg "InvalidState" "InvalidNumber" false
  k_InvalidState_InvalidItems : P2 K mg "InvalidState" "InvalidItems" false
  k_InvalidState_TooLong : P2 K mg "InvalidState" "TooLong" false
  k_InvalidState_Contradiction : P2 K mg "InvalidState" "Contradiction" false
  k_InvalidState_Impossible : P2 K mg "InvalidState" "Impossible" false
  k_InvalidState_InvalidCommand : P2 K mg "InvalidState" "InvalidCommand" false
  k_InvalidState_InvalidCounts : P2 K mg "InvalidState" "InvalidCounts" false
  k_InvalidState_InvalidEffects : P2 K mg "InvalidState" "InvalidEffects" false
  k_InvalidState_InvalidKind : P2 K mg "InvalidState" "InvalidKind" false
  k_InvalidState_InvalidKinds : P2 K mg "InvalidState" "InvalidKinds" false
  k_InvalidState_InvalidRecord : P2 K mg "InvalidState" "InvalidRecord" false
  k_InvalidState_InvalidText : P2 K mg "InvalidState" "InvalidText" false
  k_InvalidState_NothingToUndo : P2 K mg "InvalidState" "NothingToUndo" false
  k_InvalidState_SameEffect : P2 K mg "InvalidState" "SameEffect" false
  k_InvalidState_TooMany : P2 K mg "InvalidState" "TooMany" false
  p_InvalidPosition : P1 K mg "InvalidPosition"
  k_InvalidPosition_InvalidSequence : P2 K mg "InvalidPosition" "InvalidSequence" false
  k_InvalidPosition_InvalidState : P2 K mg "InvalidPosition" "InvalidState" false
  k_InvalidPosition_InvalidPosition : P2 K mg "InvalidPosition" "InvalidPosition" true
  k_InvalidPosition_InvalidNumber : P2 K mg "InvalidPosition" "InvalidNumber" false
  k_InvalidPosition_InvalidItems : P2 K mg "InvalidPosition" "InvalidItems" false
  k_InvalidPosition_TooLong : P2 K mg "InvalidPosition" "TooLong" false
  k_InvalidPosition_Contradiction : P2 K mg "InvalidPosition" "Contradiction" false
  k_InvalidPosition_Impossible : P2 K mg "InvalidPosition" "Impossible" false
  k_InvalidPosition_InvalidCommand : P2 K mg "InvalidPosition" "InvalidCommand" false
  k_InvalidPosition_InvalidCounts : P2 K mg "InvalidPosition" "InvalidCounts" false
  k_InvalidPosition_InvalidEffects : P2 K mg "InvalidPosition" "InvalidEffects" false
  k_InvalidPosition_InvalidKind : P2 K mg "InvalidPosition" "InvalidKind" false
  k_InvalidPosition_InvalidKinds : P2 K mg "InvalidPosition" "InvalidKinds" false
  k_InvalidPosition_InvalidRecord : P2 K mg "InvalidPosition" "InvalidRecord" false
  k_InvalidPosition_InvalidText : P2 K mg "InvalidPosition" "InvalidText" false
  k_InvalidPosition_NothingToUndo : P2 K mg "InvalidPosition" "NothingToUndo" false
  k_InvalidPosition_SameEffect : P2 K mg "InvalidPosition" "SameEffect" false
  k_InvalidPosition_TooMany : P2 K mg "InvalidPosition" "TooMany" false
  p_InvalidNumber : P1 K mg "InvalidNumber"
  k_InvalidNumber_InvalidSequence : P2 K mg "InvalidNumber" "InvalidSequence" false
  k_InvalidNumber_InvalidState : P2 K mg "InvalidNumber" "InvalidState" false
  k_InvalidNumber_InvalidPosition : P2 K mg "InvalidNumber" "InvalidPosition" false
  k_InvalidNumber_InvalidNumber : P2 K mg "InvalidNumber" "InvalidNumber" true
  k_InvalidNumber_InvalidItems : P2 K mg "InvalidNumber" "InvalidItems" false
  k_InvalidNumber_TooLong : P2 K mg "InvalidNumber" "TooLong" false
  k_InvalidNumber_Contradiction : P2 K mg "InvalidNumber" "Contradiction" false
  k_InvalidNumber_Impossible : P2 K mg "InvalidNumber" "Impossible" false
  k_InvalidNumber_InvalidCommand : P2 K mg "InvalidNumber" "InvalidCommand" false
  k_InvalidNumber_InvalidCounts : P2 K mg "InvalidNumber" "InvalidCounts" false
  k_InvalidNumber_InvalidEffects : P2 K mg "InvalidNumber" "InvalidEffects" false
  k_InvalidNumber_InvalidKind : P2 K mg "InvalidNumber" "InvalidKind" false
  k_InvalidNumber_InvalidKinds : P2 K mg "InvalidNumber" "InvalidKinds" false
  k_InvalidNumber_InvalidRecord : P2 K mg "InvalidNumber" "InvalidRecord" false
  k_InvalidNumber_InvalidText : P2 K mg "InvalidNumber" "InvalidText" false
  k_InvalidNumber_NothingToUndo : P2 K mg "InvalidNumber" "NothingToUndo" false
  k_InvalidNumber_SameEffect : P2 K mg "InvalidNumber" "SameEffect" false
  k_InvalidNumber_TooMany : P2 K mg "InvalidNumber" "TooMany" false
  p_InvalidItems : P1 K mg "InvalidItems"
  k_InvalidItems_InvalidSequence : P2 K mg "InvalidItems" "InvalidSequence" false
  k_InvalidItems_InvalidState : P2 K mg "InvalidItems" "InvalidState" false
  k_InvalidItems_InvalidPosition : P2 K mg "InvalidItems" "InvalidPosition" false
  k_InvalidItems_InvalidNumber : P2 K mg "InvalidItems" "InvalidNumber" false
  k_InvalidItems_InvalidItems : P2 K mg "InvalidItems" "InvalidItems" true
  k_InvalidItems_TooLong : P2 K mg "InvalidItems" "TooLong" false
  k_InvalidItems_Contradiction : P2 K mg "InvalidItems" "Contradiction" false
  k_InvalidItems_Impossible : P2 K mg "InvalidItems" "Impossible" false
  k_InvalidItems_InvalidCommand : P2 K mg "InvalidItems" "InvalidCommand" false
  k_InvalidItems_InvalidCounts : P2 K mg "InvalidItems" "InvalidCounts" false
  k_InvalidItems_InvalidEffects : P2 K mg "InvalidItems" "InvalidEffects" false
  k_InvalidItems_InvalidKind : P2 K mg "InvalidItems" "InvalidKind" false
  k_InvalidItems_InvalidKinds : P2 K mg "InvalidItems" "InvalidKinds" false
  k_InvalidItems_InvalidRecord : P2 K mg "InvalidItems" "InvalidRecord" false
  k_InvalidItems_InvalidText : P2 K mg "InvalidItems" "InvalidText" false
  k_InvalidItems_NothingToUndo : P2 K mg "InvalidItems" "NothingToUndo" false
  k_InvalidItems_SameEffect : P2 K mg "InvalidItems" "SameEffect" false
  k_InvalidItems_TooMany : P2 K mg "InvalidItems" "TooMany" false
  p_TooLong : P1 K mg "TooLong"
  k_TooLong_InvalidSequence : P2 K mg "TooLong" "InvalidSequence" false
  k_TooLong_InvalidState : P2 K mg "TooLong" "InvalidState" false
  k_TooLong_InvalidPosition : P2 K mg "TooLong" "InvalidPosition" false
  k_TooLong_InvalidNumber : P2 K mg "TooLong" "InvalidNumber" false
  k_TooLong_InvalidItems : P2 K mg "TooLong" "InvalidItems" false
  k_TooLong_TooLong : P2 K mg "TooLong" "TooLong" true
  k_TooLong_Contradiction : P2 K mg "TooLong" "Contradiction" false
  k_TooLong_Impossible : P2 K mg "TooLong" "Impossible" false
  k_TooLong_InvalidCommand : P2 K mg "TooLong" "InvalidCommand" false
  k_TooLong_InvalidCounts : P2 K mg "TooLong" "InvalidCounts" false
  k_TooLong_InvalidEffects : P2 K mg "TooLong" "InvalidEffects" false
  k_TooLong_InvalidKind : P2 K mg "TooLong" "InvalidKind" false
  k_TooLong_InvalidKinds : P2 K mg "TooLong" "InvalidKinds" false
  k_TooLong_InvalidRecord : P2 K mg "TooLong" "InvalidRecord" false
  k_TooLong_InvalidText : P2 K mg "TooLong" "InvalidText" false
  k_TooLong_NothingToUndo : P2 K mg "TooLong" "NothingToUndo" false
  k_TooLong_SameEffect : P2 K mg "TooLong" "SameEffect" false
  k_TooLong_TooMany : P2 K mg "TooLong" "TooMany" false
  p_InvalidKind : P1 K mg "InvalidKind"
  k_InvalidKind_InvalidSequence : P2 K mg "InvalidKind" "InvalidSequence" false
  k_InvalidKind_InvalidState : P2 K mg "InvalidKind" "InvalidState" false
  k_InvalidKind_InvalidPosition : P2 K mg "InvalidKind" "InvalidPosition" false
  k_InvalidKind_InvalidNumber : P2 K mg "InvalidKind" "InvalidNumber" false
  k_InvalidKind_InvalidItems : P2 K mg "InvalidKind" "InvalidItems" false
  k_InvalidKind_TooLong : P2 K mg "InvalidKind" "TooLong" false
  k_InvalidKind_Contradiction : P2 K mg "InvalidKind" "Contradiction" false
  k_InvalidKind_Impossible : P2 K mg "InvalidKind" "Impossible" false
  k_InvalidKind_InvalidCommand : P2 K mg "InvalidKind" "InvalidCommand" false
  k_InvalidKind_InvalidCounts : P2 K mg "InvalidKind" "InvalidCounts" false
  k_InvalidKind_InvalidEffects : P2 K mg "InvalidKind" "InvalidEffects" false
  k_InvalidKind_InvalidKind : P2 K mg "InvalidKind" "InvalidKind" true
  k_InvalidKind_InvalidKinds : P2 K mg "InvalidKind" "InvalidKinds" false
  k_InvalidKind_InvalidRecord : P2 K mg "InvalidKind" "InvalidRecord" false
  k_InvalidKind_InvalidText : P2 K mg "InvalidKind" "InvalidText" false
  k_InvalidKind_NothingToUndo : P2 K mg "InvalidKind" "NothingToUndo" false
  k_InvalidKind_SameEffect : P2 K mg "InvalidKind" "SameEffect" false
  k_InvalidKind_TooMany : P2 K mg "InvalidKind" "TooMany" false
  p_InvalidKinds : P1 K mg "InvalidKinds"
  k_InvalidKinds_InvalidSequence : P2 K mg "InvalidKinds" "InvalidSequence" false
  k_InvalidKinds_InvalidState : P2 K mg "InvalidKinds" "InvalidState" false
  k_InvalidKinds_InvalidPosition : P2 K mg "InvalidKinds" "InvalidPosition" false
  k_InvalidKinds_InvalidNumber : P2 K mg "InvalidKinds" "InvalidNumber" false
  k_InvalidKinds_InvalidItems : P2 K mg "InvalidKinds" "InvalidItems" false
  k_InvalidKinds_TooLong : P2 K mg "InvalidKinds" "TooLong" false
  k_InvalidKinds_Contradiction : P2 K mg "InvalidKinds" "Contradiction" false
  k_InvalidKinds_Impossible : P2 K mg "InvalidKinds" "Impossible" false
  k_InvalidKinds_InvalidCommand : P2 K mg "InvalidKinds" "InvalidCommand" false
  k_InvalidKinds_InvalidCounts : P2 K mg "InvalidKinds" "InvalidCounts" false
  k_InvalidKinds_InvalidEffects : P2 K mg "InvalidKinds" "InvalidEffects" false
  k_InvalidKinds_InvalidKind : P2 K mg "InvalidKinds" "InvalidKind" false
  k_InvalidKinds_InvalidKinds : P2 K mg "InvalidKinds" "InvalidKinds" true
  k_InvalidKinds_InvalidRecord : P2 K mg "InvalidKinds" "InvalidRecord" false
  k_InvalidKinds_InvalidText : P2 K mg "InvalidKinds" "InvalidText" false
  k_InvalidKinds_NothingToUndo : P2 K mg "InvalidKinds" "NothingToUndo" false
  k_InvalidKinds_SameEffect : P2 K mg "InvalidKinds" "SameEffect" false
  k_InvalidKinds_TooMany : P2 K mg "InvalidKinds" "TooMany" false
  p_InvalidEffects : P1 K mg "InvalidEffects"
  k_InvalidEffects_InvalidSequence : P2 K mg "InvalidEffects" "InvalidSequence" false
  k_InvalidEffects_InvalidState : P2 K mg "InvalidEffects" "InvalidState" false
  k_InvalidEffects_InvalidPosition : P2 K mg "InvalidEffects" "InvalidPosition" false
  k_InvalidEffects_InvalidNumber : P2 K mg "InvalidEffects" "InvalidNumber" false
  k_InvalidEffects_InvalidItems : P2 K mg "InvalidEffects" "InvalidItems" false
  k_InvalidEffects_TooLong : P2 K mg "InvalidEffects" "TooLong" false
  k_InvalidEffects_Contradiction : P2 K mg "InvalidEffects" "Contradiction" false
  k_InvalidEffects_Impossible : P2 K mg "InvalidEffects" "Impossible" false
  k_InvalidEffects_InvalidCommand : P2 K mg "InvalidEffects" "InvalidCommand" false
  k_InvalidEffects_InvalidCounts : P2 K mg "InvalidEffects" "InvalidCounts" false
  k_InvalidEffects_InvalidEffects : P2 K mg "InvalidEffects" "InvalidEffects" true
  k_InvalidEffects_InvalidKind : P2 K mg "InvalidEffects" "InvalidKind" false
  k_InvalidEffects_InvalidKinds : P2 K mg "InvalidEffects" "InvalidKinds" false
  k_InvalidEffects_InvalidRecord : P2 K mg "InvalidEffects" "InvalidRecord" false
  k_InvalidEffects_InvalidText : P2 K mg "InvalidEffects" "InvalidText" false
  k_InvalidEffects_NothingToUndo : P2 K mg "InvalidEffects" "NothingToUndo" false
  k_InvalidEffects_SameEffect : P2 K mg "InvalidEffects" "SameEffect" false
  k_InvalidEffects_TooMany : P2 K mg "InvalidEffects" "TooMany" false
  p_InvalidCounts : P1 K mg "InvalidCounts"
  k_InvalidCounts_InvalidSequence : P2 K mg "InvalidCounts" "InvalidSequence" false
  k_InvalidCounts_InvalidState : P2 K mg "InvalidCounts" "InvalidState" false
  k_InvalidCounts_InvalidPosition : P2 K mg "InvalidCounts" "InvalidPosition" false
  k_InvalidCounts_InvalidNumber : P2 K mg "InvalidCounts" "InvalidNumber" false
  k_InvalidCounts_InvalidItems : P2 K mg "InvalidCounts" "InvalidItems" false
  k_InvalidCounts_TooLong : P2 K mg "InvalidCounts" "TooLong" false
  k_InvalidCounts_Contradiction : P2 K mg "InvalidCounts" "Contradiction" false
  k_InvalidCounts_Impossible : P2 K mg "InvalidCounts" "Impossible" false
  k_InvalidCounts_InvalidCommand : P2 K mg "InvalidCounts" "InvalidCommand" false
  k_InvalidCounts_InvalidCounts : P2 K mg "InvalidCounts" "InvalidCounts" true
  k_InvalidCounts_InvalidEffects : P2 K mg "InvalidCounts" "InvalidEffects" false
  k_InvalidCounts_InvalidKind : P2 K mg "InvalidCounts" "InvalidKind" false
  k_InvalidCounts_InvalidKinds : P2 K mg "InvalidCounts" "InvalidKinds" false
  k_InvalidCounts_InvalidRecord : P2 K mg "InvalidCounts" "InvalidRecord" false
  k_InvalidCounts_InvalidText : P2 K mg "InvalidCounts" "InvalidText" false
  k_InvalidCounts_NothingToUndo : P2 K mg "InvalidCounts" "NothingToUndo" false
  k_InvalidCounts_SameEffect : P2 K mg "InvalidCounts" "SameEffect" false
  k_InvalidCounts_TooMany : P2 K mg "InvalidCounts" "TooMany" false
  p_InvalidRecord : P1 K mg "InvalidRecord"
  k_InvalidRecord_InvalidSequence : P2 K mg "InvalidRecord" "InvalidSequence" false
  k_InvalidRecord_InvalidState : P2 K mg "InvalidRecord" "InvalidState" false
  k_InvalidRecord_InvalidPosition : P2 K mg "InvalidRecord" "InvalidPosition" false
  k_InvalidRecord_InvalidNumber : P2 K mg "InvalidRecord" "InvalidNumber" false
  k_InvalidRecord_InvalidItems : P2 K mg "InvalidRecord" "InvalidItems" false
  k_InvalidRecord_TooLong : P2 K mg "InvalidRecord" "TooLong" false
  k_InvalidRecord_Contradiction : P2 K mg "InvalidRecord" "Contradiction" false
  k_InvalidRecord_Impossible : P2 K mg "InvalidRecord" "Impossible" false
  k_InvalidRecord_InvalidCommand : P2 K mg "InvalidRecord" "InvalidCommand" false
  k_InvalidRecord_InvalidCounts : P2 K mg "InvalidRecord" "InvalidCounts" false
  k_InvalidRecord_InvalidEffects : P2 K mg "InvalidRecord" "InvalidEffects" false
  k_InvalidRecord_InvalidKind : P2 K mg "InvalidRecord" "InvalidKind" false
  k_InvalidRecord_InvalidKinds : P2 K mg "InvalidRecord" "InvalidKinds" false
  k_InvalidRecord_InvalidRecord : P2 K mg "InvalidRecord" "InvalidRecord" true
  k_InvalidRecord_InvalidText : P2 K mg "InvalidRecord" "InvalidText" false
  k_InvalidRecord_NothingToUndo : P2 K mg "InvalidRecord" "NothingToUndo" false
  k_InvalidRecord_SameEffect : P2 K mg "InvalidRecord" "SameEffect" false
  k_InvalidRecord_TooMany : P2 K mg "InvalidRecord" "TooMany" false
  p_InvalidCommand : P1 K mg "InvalidCommand"
  k_InvalidCommand_InvalidSequence : P2 K mg "InvalidCommand" "InvalidSequence" false
  k_InvalidCommand_InvalidState : P2 K mg "InvalidCommand" "InvalidState" false
  k_InvalidCommand_InvalidPosition : P2 K mg "InvalidCommand" "InvalidPosition" false
  k_InvalidCommand_InvalidNumber : P2 K mg "InvalidCommand" "InvalidNumber" false
  k_InvalidCommand_InvalidItems : P2 K mg "InvalidCommand" "InvalidItems" false
  k_InvalidCommand_TooLong : P2 K mg "InvalidCommand" "TooLong" false
  k_InvalidCommand_Contradiction : P2 K mg "InvalidCommand" "Contradiction" false
  k_InvalidCommand_Impossible : P2 K mg "InvalidCommand" "Impossible" false
  k_InvalidCommand_InvalidCommand : P2 K mg "InvalidCommand" "InvalidCommand" true
  k_InvalidCommand_InvalidCounts : P2 K mg "InvalidCommand" "InvalidCounts" false
  k_InvalidCommand_InvalidEffects : P2 K mg "InvalidCommand" "InvalidEffects" false
  k_InvalidCommand_InvalidKind : P2 K mg "InvalidCommand" "InvalidKind" false
  k_InvalidCommand_InvalidKinds : P2 K mg "InvalidCommand" "InvalidKinds" false
  k_InvalidCommand_InvalidRecord : P2 K mg "InvalidCommand" "InvalidRecord" false
  k_InvalidCommand_InvalidText : P2 K mg "InvalidCommand" "InvalidText" false
  k_InvalidCommand_NothingToUndo : P2 K mg "InvalidCommand" "NothingToUndo" false
  k_InvalidCommand_SameEffect : P2 K mg "InvalidCommand" "SameEffect" false
  k_InvalidCommand_TooMany : P2 K mg "InvalidCommand" "TooMany" false
  p_SameEffect : P1 K mg "SameEffect"
  k_SameEffect_InvalidSequence : P2 K mg "SameEffect" "InvalidSequence" false
  k_SameEffect_InvalidState : P2 K mg "SameEffect" "InvalidState" false
  k_SameEffect_InvalidPosition : P2 K mg "SameEffect" "InvalidPosition" false
  k_SameEffect_InvalidNumber : P2 K mg "SameEffect" "InvalidNumber" false
  k_SameEffect_InvalidItems : P2 K mg "SameEffect" "InvalidItems" false
  k_SameEffect_TooLong : P2 K mg "SameEffect" "TooLong" false
  k_SameEffect_Contradiction : P2 K mg "SameEffect" "Contradiction" false
  k_SameEffect_Impossible : P2 K mg "SameEffect" "Impossible" false
  k_SameEffect_InvalidCommand : P2 K mg "SameEffect" "InvalidCommand" false
  k_SameEffect_InvalidCounts : P2 K mg "SameEffect" "InvalidCounts" false
  k_SameEffect_InvalidEffects : P2 K mg "SameEffect" "InvalidEffects" false
  k_SameEffect_InvalidKind : P2 K mg "SameEffect" "InvalidKind" false
  k_SameEffect_InvalidKinds : P2 K mg "SameEffect" "InvalidKinds" false
  k_SameEffect_InvalidRecord : P2 K mg "SameEffect" "InvalidRecord" false
  k_SameEffect_InvalidText : P2 K mg "SameEffect" "InvalidText" false
  k_SameEffect_NothingToUndo : P2 K mg "SameEffect" "NothingToUndo" false
  k_SameEffect_SameEffect : P2 K mg "SameEffect" "SameEffect" true
  k_SameEffect_TooMany : P2 K mg "SameEffect" "TooMany" false
  p_NothingToUndo : P1 K mg "NothingToUndo"
  k_NothingToUndo_InvalidSequence : P2 K mg "NothingToUndo" "InvalidSequence" false
  k_NothingToUndo_InvalidState : P2 K mg "NothingToUndo" "InvalidState" false
  k_NothingToUndo_InvalidPosition : P2 K mg "NothingToUndo" "InvalidPosition" false
  k_NothingToUndo_InvalidNumber : P2 K mg "NothingToUndo" "InvalidNumber" false
  k_NothingToUndo_InvalidItems : P2 K mg "NothingToUndo" "InvalidItems" false
  k_NothingToUndo_TooLong : P2 K mg "NothingToUndo" "TooLong" false
  k_NothingToUndo_Contradiction : P2 K mg "NothingToUndo" "Contradiction" false
  k_NothingToUndo_Impossible : P2 K mg "NothingToUndo" "Impossible" false
  k_NothingToUndo_InvalidCommand : P2 K mg "NothingToUndo" "InvalidCommand" false
  k_NothingToUndo_InvalidCounts : P2 K mg "NothingToUndo" "InvalidCounts" false
  k_NothingToUndo_InvalidEffects : P2 K mg "NothingToUndo" "InvalidEffects" false
  k_NothingToUndo_InvalidKind : P2 K mg "NothingToUndo" "InvalidKind" false
  k_NothingToUndo_InvalidKinds : P2 K mg "NothingToUndo" "InvalidKinds" false
  k_NothingToUndo_InvalidRecord : P2 K mg "NothingToUndo" "InvalidRecord" false
  k_NothingToUndo_InvalidText : P2 K mg "NothingToUndo" "InvalidText" false
  k_NothingToUndo_NothingToUndo : P2 K mg "NothingToUndo" "NothingToUndo" true
  k_NothingToUndo_SameEffect : P2 K mg "NothingToUndo" "SameEffect" false
  k_NothingToUndo_TooMany : P2 K mg "NothingToUndo" "TooMany" false
  o_InvalidText : P0 K mg "InvalidText"
  i_InvalidText : ∃ C, TxtF K mg C
  k_InvalidText_InvalidSequence : P2 K mg "InvalidText" "InvalidSequence" false
  k_InvalidText_InvalidState : P2 K mg "InvalidText" "InvalidState" false
  k_InvalidText_InvalidPosition : P2 K mg "InvalidText" "InvalidPosition" false
  k_InvalidText_InvalidNumber : P2 K mg "InvalidText" "InvalidNumber" false
  k_InvalidText_InvalidItems : P2 K mg "InvalidText" "InvalidItems" false
  k_InvalidText_TooLong : P2 K mg "InvalidText" "TooLong" false
  k_InvalidText_Contradiction : P2 K mg "InvalidText" "Contradiction" false
  k_InvalidText_Impossible : P2 K mg "InvalidText" "Impossible" false
  k_InvalidText_InvalidCommand : P2 K mg "InvalidText" "InvalidCommand" false
  k_InvalidText_InvalidCounts : P2 K mg "InvalidText" "InvalidCounts" false
  k_InvalidText_InvalidEffects : P2 K mg "InvalidText" "InvalidEffects" false
  k_InvalidText_InvalidKind : P2 K mg "InvalidText" "InvalidKind" false
  k_InvalidText_InvalidKinds : P2 K mg "InvalidText" "InvalidKinds" false
  k_InvalidText_InvalidRecord : P2 K mg "InvalidText" "InvalidRecord" false
  k_InvalidText_InvalidText : P2 K mg "InvalidText" "InvalidText" true
  k_InvalidText_NothingToUndo : P2 K mg "InvalidText" "NothingToUndo" false
  k_InvalidText_SameEffect : P2 K mg "InvalidText" "SameEffect" false
  k_InvalidText_TooMany : P2 K mg "InvalidText" "TooMany" false
  o_TooMany : P0 K mg "TooMany"
  i_TooMany : ∃ C, ManF K mg C
  k_TooMany_InvalidSequence : P2 K mg "TooMany" "InvalidSequence" false
  k_TooMany_InvalidState : P2 K mg "TooMany" "InvalidState" false
  k_TooMany_InvalidPosition : P2 K mg "TooMany" "InvalidPosition" false
  k_TooMany_InvalidNumber : P2 K mg "TooMany" "InvalidNumber" false
  k_TooMany_InvalidItems : P2 K mg "TooMany" "InvalidItems" false
  k_TooMany_TooLong : P2 K mg "TooMany" "TooLong" false
  k_TooMany_Contradiction : P2 K mg "TooMany" "Contradiction" false
  k_TooMany_Impossible : P2 K mg "TooMany" "Impossible" false
  k_TooMany_InvalidCommand : P2 K mg "TooMany" "InvalidCommand" false
  k_TooMany_InvalidCounts : P2 K mg "TooMany" "InvalidCounts" false
  k_TooMany_InvalidEffects : P2 K mg "TooMany" "InvalidEffects" false
  k_TooMany_InvalidKind : P2 K mg "TooMany" "InvalidKind" false
  k_TooMany_InvalidKinds : P2 K mg "TooMany" "InvalidKinds" false
  k_TooMany_InvalidRecord : P2 K mg "TooMany" "InvalidRecord" false
  k_TooMany_InvalidText : P2 K mg "TooMany" "InvalidText" false
  k_TooMany_NothingToUndo : P2 K mg "TooMany" "NothingToUndo" false
  k_TooMany_SameEffect : P2 K mg "TooMany" "SameEffect" false
  k_TooMany_TooMany : P2 K mg "TooMany" "TooMany" true
  o_Impossible : P0 K mg "Impossible"
  i_Impossible : ∃ C, ImpF K mg C
  k_Impossible_InvalidSequence : P2 K mg "Impossible" "InvalidSequence" false
  k_Impossible_InvalidState : P2 K mg "Impossible" "InvalidState" false
  k_Impossible_InvalidPosition : P2 K mg "Impossible" "InvalidPosition" false
  k_Impossible_InvalidNumber : P2 K mg "Impossible" "InvalidNumber" false
  k_Impossible_InvalidItems : P2 K mg "Impossible" "InvalidItems" false
  k_Impossible_TooLong : P2 K mg "Impossible" "TooLong" false
  k_Impossible_Contradiction : P2 K mg "Impossible" "Contradiction" false
  k_Impossible_Impossible : P2 K mg "Impossible" "Impossible" true
  k_Impossible_InvalidCommand : P2 K mg "Impossible" "InvalidCommand" false
  k_Impossible_InvalidCounts : P2 K mg "Impossible" "InvalidCounts" false
  k_Impossible_InvalidEffects : P2 K mg "Impossible" "InvalidEffects" false
  k_Impossible_InvalidKind : P2 K mg "Impossible" "InvalidKind" false
  k_Impossible_InvalidKinds : P2 K mg "Impossible" "InvalidKinds" false
  k_Impossible_InvalidRecord : P2 K mg "Impossible" "InvalidRecord" false
  k_Impossible_InvalidText : P2 K mg "Impossible" "InvalidText" false
  k_Impossible_NothingToUndo : P2 K mg "Impossible" "NothingToUndo" false
  k_Impossible_SameEffect : P2 K mg "Impossible" "SameEffect" false
  k_Impossible_TooMany : P2 K mg "Impossible" "TooMany" false
  o_Contradiction : P0 K mg "Contradiction"
  i_Contradiction : ∃ C, ConF K mg C
  k_Contradiction_InvalidSequence : P2 K mg "Contradiction" "InvalidSequence" false
  k_Contradiction_InvalidState : P2 K mg "Contradiction" "InvalidState" false
  k_Contradiction_InvalidPosition : P2 K mg "Contradiction" "InvalidPosition" false
  k_Contradiction_InvalidNumber : P2 K mg "Contradiction" "InvalidNumber" false
  k_Contradiction_InvalidItems : P2 K mg "Contradiction" "InvalidItems" false
  k_Contradiction_TooLong : P2 K mg "Contradiction" "TooLong" false
  k_Contradiction_Contradiction : P2 K mg "Contradiction" "Contradiction" true
  k_Contradiction_Impossible : P2 K mg "Contradiction" "Impossible" false
  k_Contradiction_InvalidCommand : P2 K mg "Contradiction" "InvalidCommand" false
  k_Contradiction_InvalidCounts : P2 K mg "Contradiction" "InvalidCounts" false
  k_Contradiction_InvalidEffects : P2 K mg "Contradiction" "InvalidEffects" false
  k_Contradiction_InvalidKind : P2 K mg "Contradiction" "InvalidKind" false
  k_Contradiction_InvalidKinds : P2 K mg "Contradiction" "InvalidKinds" false
  k_Contradiction_InvalidRecord : P2 K mg "Contradiction" "InvalidRecord" false
  k_Contradiction_InvalidText : P2 K mg "Contradiction" "InvalidText" false
  k_Contradiction_NothingToUndo : P2 K mg "Contradiction" "NothingToUndo" false
  k_Contradiction_SameEffect : P2 K mg "Contradiction" "SameEffect" false
  k_Contradiction_TooMany : P2 K mg "Contradiction" "TooMany" false
  d_copied : Df K mg "copied" s_copied
  d_is_whole : Df K mg "is_whole" s_is_whole
  d_is_within : Df K mg "is_within" s_is_within
  d_is_listed : Df K mg "is_listed" s_is_listed
  d_is_couple : Df K mg "is_couple" s_is_couple
  d_is_kind : Df K mg "is_kind" s_is_kind
  d_is_run : Df K mg "is_run" s_is_run
  d_is_sequence : Df K mg "is_sequence" s_is_sequence
  d_checked_runs : Df K mg "checked_runs" s_checked_runs
  d_checked_short_runs : Df K mg "checked_short_runs" s_checked_short_runs
  d_check_position : Df K mg "check_position" s_check_position
  d_length_of : Df K mg "length_of" s_length_of
  d_cut : Df K mg "cut" s_cut
  d_add_run : Df K mg "add_run" s_add_run
  d_total_length : Df K mg "total_length" s_total_length
  d_counts_of : Df K mg "counts_of" s_counts_of
  d_kind_at : Df K mg "kind_at" s_kind_at
  d_part_of : Df K mg "part_of" s_part_of
  d_joined : Df K mg "joined" s_joined
  d_runs_of : Df K mg "runs_of" s_runs_of
  d_items_of : Df K mg "items_of" s_items_of
  d_law_spring : Df K mg "_law_spring" s_law_spring
  d_law_draw : Df K mg "_law_draw" s_law_draw
  d_law_sequence : Df K mg "_law_sequence" s_law_sequence
  d_law_no_sequence : Df K mg "_law_no_sequence" s_law_no_sequence
  d_law_class : Df K mg "_law_class" s_law_class
  d_law_asked : Df K mg "_law_asked" s_law_asked
  d_law_rows : Df K mg "_law_rows" s_law_rows
  d_law_long_right : Df K mg "_law_long_right" s_law_long_right
  d_law_classes_right : Df K mg "_law_classes_right" s_law_classes_right
theorem Top.law {P : Program} {w : World} {K : PySem.W.Frag} {mg : Str → Option Value} (Y : Top K mg) {f : Addr} {fd : FuncData} (F : Fun K "law" "law" s_law f fd) (base : Heap) : FnC P w K mg base f fd ["script"] (sp_law K) := by
  have T := Y.T
  have q_InvalidSequence : ∀ n, n ∈ six ++ (oddA ++ oddB) → P2 K mg "InvalidSequence" n (decide (n = "InvalidSequence")) := by
    intro n hn
    simp only [six, oddA, oddB, List.cons_append, List.nil_append, List.mem_cons, List.not_mem_nil, or_false] at hn
    rcases hn with rfl | rfl | rfl | rfl | rfl | rfl | rfl | rfl | rfl | rfl | rfl | rfl | rfl | rfl | rfl | rfl | rfl | rfl
    · exact Y.k_InvalidSequence_InvalidSequence
    · exact Y.k_InvalidSequence_InvalidState
    · exact Y.k_InvalidSequence_InvalidPosition
    · exact Y.k_InvalidSequence_InvalidNumber
    · exact Y.k_InvalidSequence_InvalidItems
    · exact Y.k_InvalidSequence_TooLong
    · exact Y.k_InvalidSequence_Contradiction
    · exact Y.k_InvalidSequence_Impossible
    · exact Y.k_InvalidSequence_InvalidCommand
    · exact Y.k_InvalidSequence_InvalidCounts
    · exact Y.k_InvalidSequence_InvalidEffects
    · exact Y.k_InvalidSequence_InvalidKind
    · exact Y.k_InvalidSequence_InvalidKinds
    · exact Y.k_InvalidSequence_InvalidRecord
    · exact Y.k_InvalidSequence_InvalidText
    · exact Y.k_InvalidSequence_NothingToUndo
    · exact Y.k_InvalidSequence_SameEffect
    · exact Y.k_InvalidSequence_TooMany
  obtain ⟨F_InvalidSequence, X_InvalidSequence⟩ := clsF_of Y.p_InvalidSequence q_InvalidSequence
  have q_InvalidState : ∀ n, n ∈ six ++ (oddA ++ oddB) → P2 K mg "InvalidState" n (decide (n = "InvalidState")) := by
    intro n hn
    simp only [six, oddA, oddB, List.cons_append, List.nil_append, List.mem_cons, List.not_mem_nil, or_false] at hn
    rcases hn with rfl | rfl | rfl | rfl | rfl | rfl | rfl | rfl | rfl | rfl | rfl | rfl | rfl | rfl | rfl | rfl | rfl | rfl
    · exact Y.k_InvalidState_InvalidSequence
    · exact Y.k_InvalidState_InvalidState
    · exact Y.k_InvalidState_InvalidPosition
    · exact Y.k_InvalidState_InvalidNumber
    · exact Y.k_InvalidState_InvalidItems
    · exact Y.k_InvalidState_TooLong
    · exact Y.k_InvalidState_Contradiction
    · exact Y.k_InvalidState_Impossible
    · exact Y.k_InvalidState_InvalidCommand
    · exact Y.k_InvalidState_InvalidCounts
    · exact Y.k_InvalidState_InvalidEffects
    · exact Y.k_InvalidState_InvalidKind
    · exact Y.k_InvalidState_InvalidKinds
    · exact Y.k_InvalidState_InvalidRecord
    · exact Y.k_InvalidState_InvalidText
    · exact Y.k_InvalidState_NothingToUndo
    · exact Y.k_InvalidState_SameEffect
    · exact Y.k_InvalidState_TooMany
  obtain ⟨F_InvalidState, X_InvalidState⟩ := clsF_of Y.p_InvalidState q_InvalidState
  have q_InvalidPosition : ∀ n, n ∈ six ++ (oddA ++ oddB) → P2 K mg "InvalidPosition" n (decide (n = "InvalidPosition")) := by
    intro n hn
    simp only [six, oddA, oddB, List.cons_append, List.nil_append, List.mem_cons, List.not_mem_nil, or_false] at hn
    rcases hn with rfl | rfl | rfl | rfl | rfl | rfl | rfl | rfl | rfl | rfl | rfl | rfl | rfl | rfl | rfl | rfl | rfl | rfl
    · exact Y.k_InvalidPosition_InvalidSequence
    · exact Y.k_InvalidPosition_InvalidState
    · exact Y.k_InvalidPosition_InvalidPosition
    · exact Y.k_InvalidPosition_InvalidNumber
    · exact Y.k_InvalidPosition_InvalidItems
    · exact Y.k_InvalidPosition_TooLong
    · exact Y.k_InvalidPosition_Contradiction
    · exact Y.k_InvalidPosition_Impossible
    · exact Y.k_InvalidPosition_InvalidCommand
    · exact Y.k_InvalidPosition_InvalidCounts
    · exact Y.k_InvalidPosition_InvalidEffects
    · exact Y.k_InvalidPosition_InvalidKind
    · exact Y.k_InvalidPosition_InvalidKinds
    · exact Y.k_InvalidPosition_InvalidRecord
    · exact Y.k_InvalidPosition_InvalidText
    · exact Y.k_InvalidPosition_NothingToUndo
    · exact Y.k_InvalidPosition_SameEffect
    · exact Y.k_InvalidPosition_TooMany
  obtain ⟨F_InvalidPosition, X_InvalidPosition⟩ := clsF_of Y.p_InvalidPosition q_InvalidPosition
  have q_InvalidNumber : ∀ n, n ∈ six ++ (oddA ++ oddB) → P2 K mg "InvalidNumber" n (decide (n = "InvalidNumber")) := by
    intro n hn
    simp only [six, oddA, oddB, List.cons_append, List.nil_append, List.mem_cons, List.not_mem_nil, or_false] at hn
    rcases hn with rfl | rfl | rfl | rfl | rfl | rfl | rfl | rfl | rfl | rfl | rfl | rfl | rfl | rfl | rfl | rfl | rfl | rfl
    · exact Y.k_InvalidNumber_InvalidSequence
    · exact Y.k_InvalidNumber_InvalidState
    · exact Y.k_InvalidNumber_InvalidPosition
    · exact Y.k_InvalidNumber_InvalidNumber
    · exact Y.k_InvalidNumber_InvalidItems
    · exact Y.k_InvalidNumber_TooLong
    · exact Y.k_InvalidNumber_Contradiction
    · exact Y.k_InvalidNumber_Impossible
    · exact Y.k_InvalidNumber_InvalidCommand
    · exact Y.k_InvalidNumber_InvalidCounts
    · exact Y.k_InvalidNumber_InvalidEffects
    · exact Y.k_InvalidNumber_InvalidKind
    · exact Y.k_InvalidNumber_InvalidKinds
    · exact Y.k_InvalidNumber_InvalidRecord
    · exact Y.k_InvalidNumber_InvalidText
    · exact Y.k_InvalidNumber_NothingToUndo
    · exact Y.k_InvalidNumber_SameEffect
    · exact Y.k_InvalidNumber_TooMany
  obtain ⟨F_InvalidNumber, X_InvalidNumber⟩ := clsF_of Y.p_InvalidNumber q_InvalidNumber
  have q_InvalidItems : ∀ n, n ∈ six ++ (oddA ++ oddB) → P2 K mg "InvalidItems" n (decide (n = "InvalidItems")) := by
    intro n hn
    simp only [six, oddA, oddB, List.cons_append, List.nil_append, List.mem_cons, List.not_mem_nil, or_false] at hn
    rcases hn with rfl | rfl | rfl | rfl | rfl | rfl | rfl | rfl | rfl | rfl | rfl | rfl | rfl | rfl | rfl | rfl | rfl | rfl
    · exact Y.k_InvalidItems_InvalidSequence
    · exact Y.k_InvalidItems_InvalidState
    · exact Y.k_InvalidItems_InvalidPosition
    · exact Y.k_InvalidItems_InvalidNumber
    · exact Y.k_InvalidItems_InvalidItems
    · exact Y.k_InvalidItems_TooLong
    · exact Y.k_InvalidItems_Contradiction
    · exact Y.k_InvalidItems_Impossible
    · exact Y.k_InvalidItems_InvalidCommand
    · exact Y.k_InvalidItems_InvalidCounts
    · exact Y.k_InvalidItems_InvalidEffects
    · exact Y.k_InvalidItems_InvalidKind
    · exact Y.k_InvalidItems_InvalidKinds
    · exact Y.k_InvalidItems_InvalidRecord
    · exact Y.k_InvalidItems_InvalidText
    · exact Y.k_InvalidItems_NothingToUndo
    · exact Y.k_InvalidItems_SameEffect
    · exact Y.k_InvalidItems_TooMany
  obtain ⟨F_InvalidItems, X_InvalidItems⟩ := clsF_of Y.p_InvalidItems q_InvalidItems
  have q_TooLong : ∀ n, n ∈ six ++ (oddA ++ oddB) → P2 K mg "TooLong" n (decide (n = "TooLong")) := by
    intro n hn
    simp only [six, oddA, oddB, List.cons_append, List.nil_append, List.mem_cons, List.not_mem_nil, or_false] at hn
    rcases hn with rfl | rfl | rfl | rfl | rfl | rfl | rfl | rfl | rfl | rfl | rfl | rfl | rfl | rfl | rfl | rfl | rfl | rfl
    · exact Y.k_TooLong_InvalidSequence
    · exact Y.k_TooLong_InvalidState
    · exact Y.k_TooLong_InvalidPosition
    · exact Y.k_TooLong_InvalidNumber
    · exact Y.k_TooLong_InvalidItems
    · exact Y.k_TooLong_TooLong
    · exact Y.k_TooLong_Contradiction
    · exact Y.k_TooLong_Impossible
    · exact Y.k_TooLong_InvalidCommand
    · exact Y.k_TooLong_InvalidCounts
    · exact Y.k_TooLong_InvalidEffects
    · exact Y.k_TooLong_InvalidKind
    · exact Y.k_TooLong_InvalidKinds
    · exact Y.k_TooLong_InvalidRecord
    · exact Y.k_TooLong_InvalidText
    · exact Y.k_TooLong_NothingToUndo
    · exact Y.k_TooLong_SameEffect
    · exact Y.k_TooLong_TooMany
  obtain ⟨F_TooLong, X_TooLong⟩ := clsF_of Y.p_TooLong q_TooLong
  have q_InvalidKind : ∀ n, n ∈ six ++ (oddA ++ oddB) → P2 K mg "InvalidKind" n (decide (n = "InvalidKind")) := by
    intro n hn
    simp only [six, oddA, oddB, List.cons_append, List.nil_append, List.mem_cons, List.not_mem_nil, or_false] at hn
    rcases hn with rfl | rfl | rfl | rfl | rfl | rfl | rfl | rfl | rfl | rfl | rfl | rfl | rfl | rfl | rfl | rfl | rfl | rfl
    · exact Y.k_InvalidKind_InvalidSequence
    · exact Y.k_InvalidKind_InvalidState
    · exact Y.k_InvalidKind_InvalidPosition
    · exact Y.k_InvalidKind_InvalidNumber
    · exact Y.k_InvalidKind_InvalidItems
    · exact Y.k_InvalidKind_TooLong
    · exact Y.k_InvalidKind_Contradiction
    · exact Y.k_InvalidKind_Impossible
    · exact Y.k_InvalidKind_InvalidCommand
    · exact Y.k_InvalidKind_InvalidCounts
    · exact Y.k_InvalidKind_InvalidEffects
    · exact Y.k_InvalidKind_InvalidKind
    · exact Y.k_InvalidKind_InvalidKinds
    · exact Y.k_InvalidKind_InvalidRecord
    · exact Y.k_InvalidKind_InvalidText
    · exact Y.k_InvalidKind_NothingToUndo
    · exact Y.k_InvalidKind_SameEffect
    · exact Y.k_InvalidKind_TooMany
  obtain ⟨F_InvalidKind, X_InvalidKind⟩ := clsF_of Y.p_InvalidKind q_InvalidKind
  have q_InvalidKinds : ∀ n, n ∈ six ++ (oddA ++ oddB) → P2 K mg "InvalidKinds" n (decide (n = "InvalidKinds")) := by
    intro n hn
    simp only [six, oddA, oddB, List.cons_append, List.nil_append, List.mem_cons, List.not_mem_nil, or_false] at hn
    rcases hn with rfl | rfl | rfl | rfl | rfl | rfl | rfl | rfl | rfl | rfl | rfl | rfl | rfl | rfl | rfl | rfl | rfl | rfl
    · exact Y.k_InvalidKinds_InvalidSequence
    · exact Y.k_InvalidKinds_InvalidState
    · exact Y.k_InvalidKinds_InvalidPosition
    · exact Y.k_InvalidKinds_InvalidNumber
    · exact Y.k_InvalidKinds_InvalidItems
    · exact Y.k_InvalidKinds_TooLong
    · exact Y.k_InvalidKinds_Contradiction
    · exact Y.k_InvalidKinds_Impossible
    · exact Y.k_InvalidKinds_InvalidCommand
    · exact Y.k_InvalidKinds_InvalidCounts
    · exact Y.k_InvalidKinds_InvalidEffects
    · exact Y.k_InvalidKinds_InvalidKind
    · exact Y.k_InvalidKinds_InvalidKinds
    · exact Y.k_InvalidKinds_InvalidRecord
    · exact Y.k_InvalidKinds_InvalidText
    · exact Y.k_InvalidKinds_NothingToUndo
    · exact Y.k_InvalidKinds_SameEffect
    · exact Y.k_InvalidKinds_TooMany
  obtain ⟨F_InvalidKinds, X_InvalidKinds⟩ := clsF_of Y.p_InvalidKinds q_InvalidKinds
  have q_InvalidEffects : ∀ n, n ∈ six ++ (oddA ++ oddB) → P2 K mg "InvalidEffects" n (decide (n = "InvalidEffects")) := by
    intro n hn
    simp only [six, oddA, oddB, List.cons_append, List.nil_append, List.mem_cons, List.not_mem_nil, or_false] at hn
    rcases hn with rfl | rfl | rfl | rfl | rfl | rfl | rfl | rfl | rfl | rfl | rfl | rfl | rfl | rfl | rfl | rfl | rfl | rfl
    · exact Y.k_InvalidEffects_InvalidSequence
    · exact Y.k_InvalidEffects_InvalidState
    · exact Y.k_InvalidEffects_InvalidPosition
    · exact Y.k_InvalidEffects_InvalidNumber
    · exact Y.k_InvalidEffects_InvalidItems
    · exact Y.k_InvalidEffects_TooLong
    · exact Y.k_InvalidEffects_Contradiction
    · exact Y.k_InvalidEffects_Impossible
    · exact Y.k_InvalidEffects_InvalidCommand
    · exact Y.k_InvalidEffects_InvalidCounts
    · exact Y.k_InvalidEffects_InvalidEffects
    · exact Y.k_InvalidEffects_InvalidKind
    · exact Y.k_InvalidEffects_InvalidKinds
    · exact Y.k_InvalidEffects_InvalidRecord
    · exact Y.k_InvalidEffects_InvalidText
    · exact Y.k_InvalidEffects_NothingToUndo
    · exact Y.k_InvalidEffects_SameEffect
    · exact Y.k_InvalidEffects_TooMany
  obtain ⟨F_InvalidEffects, X_InvalidEffects⟩ := clsF_of Y.p_InvalidEffects q_InvalidEffects
  have q_InvalidCounts : ∀ n, n ∈ six ++ (oddA ++ oddB) → P2 K mg "InvalidCounts" n (decide (n = "InvalidCounts")) := by
    intro n hn
    simp only [six, oddA, oddB, List.cons_append, List.nil_append, List.mem_cons, List.not_mem_nil, or_false] at hn
    rcases hn with rfl | rfl | rfl | rfl | rfl | rfl | rfl | rfl | rfl | rfl | rfl | rfl | rfl | rfl | rfl | rfl | rfl | rfl
    · exact Y.k_InvalidCounts_InvalidSequence
    · exact Y.k_InvalidCounts_InvalidState
    · exact Y.k_InvalidCounts_InvalidPosition
    · exact Y.k_InvalidCounts_InvalidNumber
    · exact Y.k_InvalidCounts_InvalidItems
    · exact Y.k_InvalidCounts_TooLong
    · exact Y.k_InvalidCounts_Contradiction
    · exact Y.k_InvalidCounts_Impossible
    · exact Y.k_InvalidCounts_InvalidCommand
    · exact Y.k_InvalidCounts_InvalidCounts
    · exact Y.k_InvalidCounts_InvalidEffects
    · exact Y.k_InvalidCounts_InvalidKind
    · exact Y.k_InvalidCounts_InvalidKinds
    · exact Y.k_InvalidCounts_InvalidRecord
    · exact Y.k_InvalidCounts_InvalidText
    · exact Y.k_InvalidCounts_NothingToUndo
    · exact Y.k_InvalidCounts_SameEffect
    · exact Y.k_InvalidCounts_TooMany
  obtain ⟨F_InvalidCounts, X_InvalidCounts⟩ := clsF_of Y.p_InvalidCounts q_InvalidCounts
  have q_InvalidRecord : ∀ n, n ∈ six ++ (oddA ++ oddB) → P2 K mg "InvalidRecord" n (decide (n = "InvalidRecord")) := by
    intro n hn
    simp only [six, oddA, oddB, List.cons_append, List.nil_append, List.mem_cons, List.not_mem_nil, or_false] at hn
    rcases hn with rfl | rfl | rfl | rfl | rfl | rfl | rfl | rfl | rfl | rfl | rfl | rfl | rfl | rfl | rfl | rfl | rfl | rfl
    · exact Y.k_InvalidRecord_InvalidSequence
    · exact Y.k_InvalidRecord_InvalidState
    · exact Y.k_InvalidRecord_InvalidPosition
    · exact Y.k_InvalidRecord_InvalidNumber
    · exact Y.k_InvalidRecord_InvalidItems
    · exact Y.k_InvalidRecord_TooLong
    · exact Y.k_InvalidRecord_Contradiction
    · exact Y.k_InvalidRecord_Impossible
    · exact Y.k_InvalidRecord_InvalidCommand
    · exact Y.k_InvalidRecord_InvalidCounts
    · exact Y.k_InvalidRecord_InvalidEffects
    · exact Y.k_InvalidRecord_InvalidKind
    · exact Y.k_InvalidRecord_InvalidKinds
    · exact Y.k_InvalidRecord_InvalidRecord
    · exact Y.k_InvalidRecord_InvalidText
    · exact Y.k_InvalidRecord_NothingToUndo
    · exact Y.k_InvalidRecord_SameEffect
    · exact Y.k_InvalidRecord_TooMany
  obtain ⟨F_InvalidRecord, X_InvalidRecord⟩ := clsF_of Y.p_InvalidRecord q_InvalidRecord
  have q_InvalidCommand : ∀ n, n ∈ six ++ (oddA ++ oddB) → P2 K mg "InvalidCommand" n (decide (n = "InvalidCommand")) := by
    intro n hn
    simp only [six, oddA, oddB, List.cons_append, List.nil_append, List.mem_cons, List.not_mem_nil, or_false] at hn
    rcases hn with rfl | rfl | rfl | rfl | rfl | rfl | rfl | rfl | rfl | rfl | rfl | rfl | rfl | rfl | rfl | rfl | rfl | rfl
    · exact Y.k_InvalidCommand_InvalidSequence
    · exact Y.k_InvalidCommand_InvalidState
    · exact Y.k_InvalidCommand_InvalidPosition
    · exact Y.k_InvalidCommand_InvalidNumber
    · exact Y.k_InvalidCommand_InvalidItems
    · exact Y.k_InvalidCommand_TooLong
    · exact Y.k_InvalidCommand_Contradiction
    · exact Y.k_InvalidCommand_Impossible
    · exact Y.k_InvalidCommand_InvalidCommand
    · exact Y.k_InvalidCommand_InvalidCounts
    · exact Y.k_InvalidCommand_InvalidEffects
    · exact Y.k_InvalidCommand_InvalidKind
    · exact Y.k_InvalidCommand_InvalidKinds
    · exact Y.k_InvalidCommand_InvalidRecord
    · exact Y.k_InvalidCommand_InvalidText
    · exact Y.k_InvalidCommand_NothingToUndo
    · exact Y.k_InvalidCommand_SameEffect
    · exact Y.k_InvalidCommand_TooMany
  obtain ⟨F_InvalidCommand, X_InvalidCommand⟩ := clsF_of Y.p_InvalidCommand q_InvalidCommand
  have q_SameEffect : ∀ n, n ∈ six ++ (oddA ++ oddB) → P2 K mg "SameEffect" n (decide (n = "SameEffect")) := by
    intro n hn
    simp only [six, oddA, oddB, List.cons_append, List.nil_append, List.mem_cons, List.not_mem_nil, or_false] at hn
    rcases hn with rfl | rfl | rfl | rfl | rfl | rfl | rfl | rfl | rfl | rfl | rfl | rfl | rfl | rfl | rfl | rfl | rfl | rfl
    · exact Y.k_SameEffect_InvalidSequence
    · exact Y.k_SameEffect_InvalidState
    · exact Y.k_SameEffect_InvalidPosition
    · exact Y.k_SameEffect_InvalidNumber
    · exact Y.k_SameEffect_InvalidItems
    · exact Y.k_SameEffect_TooLong
    · exact Y.k_SameEffect_Contradiction
    · exact Y.k_SameEffect_Impossible
    · exact Y.k_SameEffect_InvalidCommand
    · exact Y.k_SameEffect_InvalidCounts
    · exact Y.k_SameEffect_InvalidEffects
    · exact Y.k_SameEffect_InvalidKind
    · exact Y.k_SameEffect_InvalidKinds
    · exact Y.k_SameEffect_InvalidRecord
    · exact Y.k_SameEffect_InvalidText
    · exact Y.k_SameEffect_NothingToUndo
    · exact Y.k_SameEffect_SameEffect
    · exact Y.k_SameEffect_TooMany
  obtain ⟨F_SameEffect, X_SameEffect⟩ := clsF_of Y.p_SameEffect q_SameEffect
  have q_NothingToUndo : ∀ n, n ∈ six ++ (oddA ++ oddB) → P2 K mg "NothingToUndo" n (decide (n = "NothingToUndo")) := by
    intro n hn
    simp only [six, oddA, oddB, List.cons_append, List.nil_append, List.mem_cons, List.not_mem_nil, or_false] at hn
    rcases hn with rfl | rfl | rfl | rfl | rfl | rfl | rfl | rfl | rfl | rfl | rfl | rfl | rfl | rfl | rfl | rfl | rfl | rfl
    · exact Y.k_NothingToUndo_InvalidSequence
    · exact Y.k_NothingToUndo_InvalidState
    · exact Y.k_NothingToUndo_InvalidPosition
    · exact Y.k_NothingToUndo_InvalidNumber
    · exact Y.k_NothingToUndo_InvalidItems
    · exact Y.k_NothingToUndo_TooLong
    · exact Y.k_NothingToUndo_Contradiction
    · exact Y.k_NothingToUndo_Impossible
    · exact Y.k_NothingToUndo_InvalidCommand
    · exact Y.k_NothingToUndo_InvalidCounts
    · exact Y.k_NothingToUndo_InvalidEffects
    · exact Y.k_NothingToUndo_InvalidKind
    · exact Y.k_NothingToUndo_InvalidKinds
    · exact Y.k_NothingToUndo_InvalidRecord
    · exact Y.k_NothingToUndo_InvalidText
    · exact Y.k_NothingToUndo_NothingToUndo
    · exact Y.k_NothingToUndo_SameEffect
    · exact Y.k_NothingToUndo_TooMany
  obtain ⟨F_NothingToUndo, X_NothingToUndo⟩ := clsF_of Y.p_NothingToUndo q_NothingToUndo
  have q_InvalidText : ∀ n, n ∈ six ++ (oddA ++ oddB) → P2 K mg "InvalidText" n (decide (n = "InvalidText")) := by
    intro n hn
    simp only [six, oddA, oddB, List.cons_append, List.nil_append, List.mem_cons, List.not_mem_nil, or_false] at hn
    rcases hn with rfl | rfl | rfl | rfl | rfl | rfl | rfl | rfl | rfl | rfl | rfl | rfl | rfl | rfl | rfl | rfl | rfl | rfl
    · exact Y.k_InvalidText_InvalidSequence
    · exact Y.k_InvalidText_InvalidState
    · exact Y.k_InvalidText_InvalidPosition
    · exact Y.k_InvalidText_InvalidNumber
    · exact Y.k_InvalidText_InvalidItems
    · exact Y.k_InvalidText_TooLong
    · exact Y.k_InvalidText_Contradiction
    · exact Y.k_InvalidText_Impossible
    · exact Y.k_InvalidText_InvalidCommand
    · exact Y.k_InvalidText_InvalidCounts
    · exact Y.k_InvalidText_InvalidEffects
    · exact Y.k_InvalidText_InvalidKind
    · exact Y.k_InvalidText_InvalidKinds
    · exact Y.k_InvalidText_InvalidRecord
    · exact Y.k_InvalidText_InvalidText
    · exact Y.k_InvalidText_NothingToUndo
    · exact Y.k_InvalidText_SameEffect
    · exact Y.k_InvalidText_TooMany
  have F_InvalidText := clsF0_of Y.o_InvalidText q_InvalidText
  have I_InvalidText : TxtF K mg (CA mg "InvalidText") := by
    obtain ⟨C, z⟩ := Y.i_InvalidText
    rw [ca_of z.g]
    exact z
  have q_TooMany : ∀ n, n ∈ six ++ (oddA ++ oddB) → P2 K mg "TooMany" n (decide (n = "TooMany")) := by
    intro n hn
    simp only [six, oddA, oddB, List.cons_append, List.nil_append, List.mem_cons, List.not_mem_nil, or_false] at hn
    rcases hn with rfl | rfl | rfl | rfl | rfl | rfl | rfl | rfl | rfl | rfl | rfl | rfl | rfl | rfl | rfl | rfl | rfl | rfl
    · exact Y.k_TooMany_InvalidSequence
    · exact Y.k_TooMany_InvalidState
    · exact Y.k_TooMany_InvalidPosition
    · exact Y.k_TooMany_InvalidNumber
    · exact Y.k_TooMany_InvalidItems
    · exact Y.k_TooMany_TooLong
    · exact Y.k_TooMany_Contradiction
    · exact Y.k_TooMany_Impossible
    · exact Y.k_TooMany_InvalidCommand
    · exact Y.k_TooMany_InvalidCounts
    · exact Y.k_TooMany_InvalidEffects
    · exact Y.k_TooMany_InvalidKind
    · exact Y.k_TooMany_InvalidKinds
    · exact Y.k_TooMany_InvalidRecord
    · exact Y.k_TooMany_InvalidText
    · exact Y.k_TooMany_NothingToUndo
    · exact Y.k_TooMany_SameEffect
    · exact Y.k_TooMany_TooMany
  have F_TooMany := clsF0_of Y.o_TooMany q_TooMany
  have I_TooMany : ManF K mg (CA mg "TooMany") := by
    obtain ⟨C, z⟩ := Y.i_TooMany
    rw [ca_of z.g]
    exact z
  have q_Impossible : ∀ n, n ∈ six ++ (oddA ++ oddB) → P2 K mg "Impossible" n (decide (n = "Impossible")) := by
    intro n hn
    simp only [six, oddA, oddB, List.cons_append, List.nil_append, List.mem_cons, List.not_mem_nil, or_false] at hn
    rcases hn with rfl | rfl | rfl | rfl | rfl | rfl | rfl | rfl | rfl | rfl | rfl | rfl | rfl | rfl | rfl | rfl | rfl | rfl
    · exact Y.k_Impossible_InvalidSequence
    · exact Y.k_Impossible_InvalidState
    · exact Y.k_Impossible_InvalidPosition
    · exact Y.k_Impossible_InvalidNumber
    · exact Y.k_Impossible_InvalidItems
    · exact Y.k_Impossible_TooLong
    · exact Y.k_Impossible_Contradiction
    · exact Y.k_Impossible_Impossible
    · exact Y.k_Impossible_InvalidCommand
    · exact Y.k_Impossible_InvalidCounts
    · exact Y.k_Impossible_InvalidEffects
    · exact Y.k_Impossible_InvalidKind
    · exact Y.k_Impossible_InvalidKinds
    · exact Y.k_Impossible_InvalidRecord
    · exact Y.k_Impossible_InvalidText
    · exact Y.k_Impossible_NothingToUndo
    · exact Y.k_Impossible_SameEffect
    · exact Y.k_Impossible_TooMany
  have F_Impossible := clsF0_of Y.o_Impossible q_Impossible
  have I_Impossible : ImpF K mg (CA mg "Impossible") := by
    obtain ⟨C, z⟩ := Y.i_Impossible
    rw [ca_of z.g]
    exact z
  have q_Contradiction : ∀ n, n ∈ six ++ (oddA ++ oddB) → P2 K mg "Contradiction" n (decide (n = "Contradiction")) := by
    intro n hn
    simp only [six, oddA, oddB, List.cons_append, List.nil_append, List.mem_cons, List.not_mem_nil, or_false] at hn
    rcases hn with rfl | rfl | rfl | rfl | rfl | rfl | rfl | rfl | rfl | rfl | rfl | rfl | rfl | rfl | rfl | rfl | rfl | rfl
    · exact Y.k_Contradiction_InvalidSequence
    · exact Y.k_Contradiction_InvalidState
    · exact Y.k_Contradiction_InvalidPosition
    · exact Y.k_Contradiction_InvalidNumber
    · exact Y.k_Contradiction_InvalidItems
    · exact Y.k_Contradiction_TooLong
    · exact Y.k_Contradiction_Contradiction
    · exact Y.k_Contradiction_Impossible
    · exact Y.k_Contradiction_InvalidCommand
    · exact Y.k_Contradiction_InvalidCounts
    · exact Y.k_Contradiction_InvalidEffects
    · exact Y.k_Contradiction_InvalidKind
    · exact Y.k_Contradiction_InvalidKinds
    · exact Y.k_Contradiction_InvalidRecord
    · exact Y.k_Contradiction_InvalidText
    · exact Y.k_Contradiction_NothingToUndo
    · exact Y.k_Contradiction_SameEffect
    · exact Y.k_Contradiction_TooMany
  have F_Contradiction := clsF0_of Y.o_Contradiction q_Contradiction
  have I_Contradiction : ConF K mg (CA mg "Contradiction") := by
    obtain ⟨C, z⟩ := Y.i_Contradiction
    rw [ca_of z.g]
    exact z
  have CM := cmg_of Y.p_InvalidSequence q_InvalidSequence
  have g_is_whole := ok_is_whole (P := P) (w := w) (base := base) Y.d_is_whole T
  have g_is_within := ok_is_within (P := P) (w := w) (base := base) Y.d_is_within g_is_whole
  have g_is_listed := ok_is_listed (P := P) (w := w) (base := base) Y.d_is_listed T
  have g_is_couple := ok_is_couple (P := P) (w := w) (base := base) Y.d_is_couple T
  have g_is_kind := ok_is_kind (P := P) (w := w) (base := base) Y.d_is_kind T
  have g_is_run := ok_is_run (P := P) (w := w) (base := base) Y.d_is_run T g_is_couple g_is_kind g_is_within
  have g_is_sequence := ok_is_sequence (P := P) (w := w) (base := base) Y.d_is_sequence T g_is_listed g_is_run
  have g_checked_runs := ok_checked_runs (P := P) (w := w) (base := base) Y.d_checked_runs T g_is_sequence
  have g_length_of := ok_length_of (P := P) (w := w) (base := base) Y.d_length_of T
  have g_cut := ok_cut (P := P) (w := w) (base := base) Y.d_cut T
  have g_part_of := ok_part_of (P := P) (w := w) (base := base) Y.d_part_of T g_checked_runs g_length_of g_is_within g_cut
  have g_check_position := ok_check_position (P := P) (w := w) (base := base) Y.d_check_position g_is_within g_length_of
  have g_law_draw := ok_law_draw (P := P) (w := w) (base := base) Y.d_law_draw T
  have g_law_spring := ok_law_spring (P := P) (w := w) (base := base) Y.d_law_spring T
  have g_law_sequence := ok_law_sequence (P := P) (w := w) (base := base) Y.d_law_sequence T g_law_draw
  have g_add_run := ok_add_run (P := P) (w := w) (base := base) Y.d_add_run
  have g_joined := ok_joined (P := P) (w := w) (base := base) Y.d_joined T g_checked_runs g_add_run
  have g_runs_of := ok_runs_of (P := P) (w := w) (base := base) Y.d_runs_of T g_is_listed g_is_kind g_add_run
  have g_checked_short_runs := ok_checked_short_runs (P := P) (w := w) (base := base) Y.d_checked_short_runs T g_checked_runs g_length_of
  have g_items_of := ok_items_of (P := P) (w := w) (base := base) Y.d_items_of T g_checked_short_runs
  have g_total_length := ok_total_length (P := P) (w := w) (base := base) Y.d_total_length g_checked_runs g_length_of
  have g_counts_of := ok_counts_of (P := P) (w := w) (base := base) Y.d_counts_of T g_checked_runs
  have g_kind_at := ok_kind_at (P := P) (w := w) (base := base) Y.d_kind_at g_checked_runs g_check_position g_cut
  have gD_is_whole := okD_is_whole (P := P) (w := w) (base := base) Y.d_is_whole T
  have gD_is_within := okD_is_within (P := P) (w := w) (base := base) Y.d_is_within gD_is_whole
  have gD_is_listed := okD_is_listed (P := P) (w := w) (base := base) Y.d_is_listed T
  have gD_is_couple := okD_is_couple (P := P) (w := w) (base := base) Y.d_is_couple T
  have gD_is_kind := okD_is_kind (P := P) (w := w) (base := base) Y.d_is_kind T
  have gD_is_run := okD_is_run (P := P) (w := w) (base := base) Y.d_is_run T gD_is_couple gD_is_kind gD_is_within
  have gD_is_sequence := okD_is_sequence (P := P) (w := w) (base := base) Y.d_is_sequence T gD_is_listed gD_is_run
  have gX_checked_runs := okX_checked_runs (P := P) (w := w) (base := base) Y.d_checked_runs T X_InvalidSequence gD_is_sequence
  have gX_total_length := okX_total_length (P := P) (w := w) (base := base) Y.d_total_length gX_checked_runs g_length_of
  have gX_counts_of := okX_counts_of (P := P) (w := w) (base := base) Y.d_counts_of T gX_checked_runs
  have gX_check_position := okX_check_position (P := P) (w := w) (base := base) Y.d_check_position X_InvalidPosition gD_is_within g_length_of
  have gX_kind_at := okX_kind_at (P := P) (w := w) (base := base) Y.d_kind_at gX_checked_runs gX_check_position g_cut
  have gX_part_of := okX_part_of (P := P) (w := w) (base := base) Y.d_part_of T X_InvalidPosition X_InvalidNumber gX_checked_runs g_length_of gD_is_within g_cut
  have gX_checked_short_runs := okX_checked_short_runs (P := P) (w := w) (base := base) Y.d_checked_short_runs T X_TooLong gX_checked_runs g_length_of
  have gX_items_of := okX_items_of (P := P) (w := w) (base := base) Y.d_items_of T gX_checked_short_runs
  have gX_runs_of := okX_runs_of (P := P) (w := w) (base := base) Y.d_runs_of T X_InvalidItems gD_is_listed gD_is_kind g_add_run
  have gX_joined := okX_joined (P := P) (w := w) (base := base) Y.d_joined T X_TooLong gX_checked_runs g_add_run
  have g_law_class := ok_law_class (P := P) (w := w) (base := base) Y.d_law_class T CM
  have g_law_no_sequence := ok_law_no_sequence (P := P) (w := w) (base := base) Y.d_law_no_sequence T g_law_draw
  have g_law_asked := ok_law_asked (P := P) (w := w) (base := base) Y.d_law_asked T CM F_InvalidSequence F_InvalidPosition F_InvalidNumber F_InvalidItems F_TooLong g_law_class g_total_length g_counts_of g_kind_at g_part_of g_joined g_runs_of g_items_of gX_total_length gX_counts_of gX_kind_at gX_part_of gX_joined gX_runs_of gX_items_of
  have g_law_rows := ok_law_rows (P := P) (w := w) (base := base) Y.d_law_rows T g_law_draw g_law_no_sequence
  have g_copied := ok_copied (P := P) (w := w) (base := base) Y.d_copied T
  have g_law_classes_right := ok_law_classes_right (P := P) (w := w) (base := base) Y.d_law_classes_right T CM X_InvalidSequence F_InvalidSequence X_InvalidState F_InvalidState X_InvalidPosition F_InvalidPosition X_InvalidNumber F_InvalidNumber X_InvalidItems F_InvalidItems X_TooLong F_TooLong X_InvalidKind F_InvalidKind X_InvalidKinds F_InvalidKinds X_InvalidEffects F_InvalidEffects X_InvalidCounts F_InvalidCounts X_InvalidRecord F_InvalidRecord X_InvalidCommand F_InvalidCommand X_SameEffect F_SameEffect X_NothingToUndo F_NothingToUndo I_InvalidText F_InvalidText I_TooMany F_TooMany I_Impossible F_Impossible I_Contradiction F_Contradiction g_copied g_law_class
  have g_law_long_right := ok_law_long_right (P := P) (w := w) (base := base) Y.d_law_long_right T g_law_asked g_joined g_items_of
  exact fn_law F T g_law_spring g_law_draw g_law_sequence g_law_rows g_law_asked g_law_long_right g_law_classes_right
theorem all_mk {P : Program} {w : World} {K : PySem.W.Frag} {h : Heap} {mg : Str → Option Value} {fa f : Addr} {od an : Option Addr} {sl : Array (Option Value)} {oc kV dc pm cd ct : Value} (X : K.In h) (G : h.Ns mainGlobals mg) (hfa : mg "law" = some (.ref fa)) (a : PySem.W.nsIn K mainGlobals "law" = some (some (.ref f)))
    (l : K.lookup f = some ⟨oc, od, .func (PySem.W.fnOf "law" "law" (defArgs s_law) (defBody s_law) (defScope s_law) .none kV dc pm an cd ct), sl⟩) (c : PySem.W.codeIn K cd "law" = true) (k : PySem.W.keepIn K (.ref f) = true) (Y : Top K mg) :
    ∃ fd : FuncData, (∀ (s : Shared) (v : Value), BindsTo s fd ⟨[v], []⟩ [("script", v)]) ∧ ∀ base : Heap, K.In base → base.Ns mainGlobals mg → FnC P w K mg base fa fd ["script"] (sp_law K) := by
  have e := hfa.symm.trans (PySem.W.mg_of X G a)
  cases e
  exact ⟨_, fun s v => .of_eq rfl, fun base _ _ => Y.law (fun_mk (st := s_law) l c k) base⟩
end UP
open PySem PySem.W PyProof.Rows
set_option maxHeartbeats 0 in
theorem PySem.Challenge.cw_unlikepairs_k04_sequence_errors_holds : PySem.Challenge.rw_unlikepairs_k04_sequence_errors.Holds := by
  w_on; o_law; k_head; (case hw => w_witness2)
  k_fill
  refine UP.walkC (l := PySem.Challenge.rw_unlikepairs_k04_sequence_errors) (n := 63) (x := "script") (sp := fun w => UP.sp_law _) rfl (by decide) rfl (fun w h Y => PySem.W.kIn_of Y) ?F (fun _ _ a ns hl hS => ⟨a, ns, rfl, hS, hl, fun _ => rfl⟩)
  case F =>
    intro w mg fa h KX G hmg
    refine' UP.all_mk KX G hmg ?a ?l ?c ?k ?Y
    (case a => k_is); (case l => k_is); (case c => k_is); (case k => k_is)
    case Y =>
      constructor
      · constructor
        · refine' PySem.W.mg_none_of KX G ?z; (case z => k_is)
        · refine' PySem.W.mg_none_of KX G ?z; (case z => k_is)
        · refine' PySem.W.mg_none_of KX G ?z; (case z => k_is)
        · refine' PySem.W.mg_none_of KX G ?z; (case z => k_is)
        · refine' PySem.W.mg_none_of KX G ?z; (case z => k_is)
        · refine' PySem.W.mg_none_of KX G ?z; (case z => k_is)
        · refine' PySem.W.mg_none_of KX G ?z; (case z => k_is)
        · refine' PySem.W.mg_none_of KX G ?z; (case z => k_is)
        · refine' PySem.W.mg_none_of KX G ?z; (case z => k_is)
        · refine' PySem.W.mg_none_of KX G ?z; (case z => k_is)
        · refine' PySem.W.mg_none_of KX G ?z; (case z => k_is)
        · refine' PySem.W.mg_none_of KX G ?z; (case z => k_is)
        · refine' PySem.W.mg_none_of KX G ?z; (case z => k_is)
        · refine' PySem.W.mg_none_of KX G ?z; (case z => k_is)
        · refine' PySem.W.mg_none_of KX G ?z; (case z => k_is)
        · refine' PySem.W.mg_none_of KX G ?z; (case z => k_is)
        · refine' PySem.W.mg_none_of KX G ?z; (case z => k_is)
        · refine' PySem.W.mg_none_of KX G ?z; (case z => k_is)
        · refine' PySem.W.mg_none_of KX G ?z; (case z => k_is)
        · refine' PySem.W.mg_none_of KX G ?z; (case z => k_is)
        · refine' PySem.W.mg_none_of KX G ?z; (case z => k_is)
        · refine' PySem.W.mg_none_of KX G ?z; (case z => k_is)
        · refine' UP.cst_mk KX G ?z; (case z => k_is)
        · refine' UP.cst_mk KX G ?z; (case z => k_is)
        · refine' UP.cst_mk KX G ?z; (case z => k_is)
        · refine' UP.cst_mk KX G ?z; (case z => k_is)
      · refine' UP.p1_mk KX G ?a ?b ?x ?k ?bs ?t ?e1 ?e2 ?e3 ?e4 ?e5 ?e6 ?e7 ?m ?k1 ?k2; (case a => k_is); (case b => k_is); (case x => first | k_exc | k_is); (case k => k_is); (case bs => k_is); (case t => k_is); (case e1 => k_is); (case e2 => k_is); (case e3 => k_is); (case e4 => k_is); (case e5 => k_is); (case e6 => k_is); (case e7 => k_is); (case m => kts_exm); (case k1 => kit_is); (case k2 => kit_is)
      · refine' UP.p2_mk KX G ?a ?b ?k; (case a => k_is); (case b => k_is); (case k => kit_is)
      · refine' UP.p2_mk KX G ?a ?b ?k; (case a => k_is); (case b => k_is); (case k => kit_is)
      · refine' UP.p2_mk KX G ?a ?b ?k; (case a => k_is); (case b => k_is); (case k => kit_is)
      · refine' UP.p2_mk KX G ?a ?b ?k; (case a => k_is); (case b => k_is); (case k => kit_is)
      · refine' UP.p2_mk KX G ?a ?b ?k; (case a => k_is); (case b => k_is); (case k => kit_is)
      · refine' UP.p2_mk KX G ?a ?b ?k; (case a => k_is); (case b => k_is); (case k => kit_is)
      · refine' UP.p2_mk KX G ?a ?b ?k; (case a => k_is); (case b => k_is); (case k => kit_is)
      · refine' UP.p2_mk KX G ?a ?b ?k; (case a => k_is); (case b => k_is); (case k => kit_is)
      · refine' UP.p2_mk KX G ?a ?b ?k; (case a => k_is); (case b => k_is); (case k => kit_is)
      · refine' UP.p2_mk KX G ?a ?b ?k; (case a => k_is); (case b => k_is); (case k => kit_is)
      · refine' UP.p2_mk KX G ?a ?b ?k; (case a => k_is); (case b => k_is); (case k => kit_is)
      · refine' UP.p2_mk KX G ?a ?b ?k; (case a => k_is); (case b => k_is); (case k => kit_is)
      · refine' UP.p2_mk KX G ?a ?b ?k; (case a => k_is); (case b => k_is); (case k => kit_is)
      · refine' UP.p2_mk KX G ?a ?b ?k; (case a => k_is); (case b => k_is); (case k => kit_is)
      · refine' UP.p2_mk KX G ?a ?b ?k; (case a => k_is); (case b => k_is); (case k => kit_is)
      · refine' UP.p2_mk KX G ?a ?b ?k; (case a => k_is); (case b => k_is); (case k => kit_is)
      · refine' UP.p2_mk KX G ?a ?b ?k; (case a => k_is); (case b => k_is); (case k => kit_is)
      · refine' UP.p2_mk KX G ?a ?b ?k; (case a => k_is); (case b => k_is); (case k => kit_is)
      · refine' UP.p1_mk KX G ?a ?b ?x ?k ?bs ?t ?e1 ?e2 ?e3 ?e4 ?e5 ?e6 ?e7 ?m ?k1 ?k2; (case a => k_is); (case b => k_is); (case x => first | k_exc | k_is); (case k => k_is); (case bs => k_is); (case t => k_is); (case e1 => k_is); (case e2 => k_is); (case e3 => k_is); (case e4 => k_is); (case e5 => k_is); (case e6 => k_is); (case e7 => k_is); (case m => kts_exm); (case k1 => kit_is); (case k2 => kit_is)
      · refine' UP.p2_mk KX G ?a ?b ?k; (case a => k_is); (case b => k_is); (case k => kit_is)
      · refine' UP.p2_mk KX G ?a ?b ?k; (case a => k_is); (case b => k_is); (case k => kit_is)
      · refine' UP.p2_mk KX G ?a ?b ?k; (case a => k_is); (case b => k_is); (case k => kit_is)
      · refine' UP.p2_mk KX G ?a ?b ?k; (case a => k_is); (case b => k_is); (case k => kit_is)
      · refine' UP.p2_mk KX G ?a ?b ?k; (case a => k_is); (case b => k_is); (case k => kit_is)
      · refine' UP.p2_mk KX G ?a ?b ?k; (case a => k_is); (case b => k_is); (case k => kit_is)
      · refine' UP.p2_mk KX G ?a ?b ?k; (case a => k_is); (case b => k_is); (case k => kit_is)
      · refine' UP.p2_mk KX G ?a ?b ?k; (case a => k_is); (case b => k_is); (case k => kit_is)
      · refine' UP.p2_mk KX G ?a ?b ?k; (case a => k_is); (case b => k_is); (case k => kit_is)
      · refine' UP.p2_mk KX G ?a ?b ?k; (case a => k_is); (case b => k_is); (case k => kit_is)
      · refine' UP.p2_mk KX G ?a ?b ?k; (case a => k_is); (case b => k_is); (case k => kit_is)
      · refine' UP.p2_mk KX G ?a ?b ?k; (case a => k_is); (case b => k_is); (case k => kit_is)
      · refine' UP.p2_mk KX G ?a ?b ?k; (case a => k_is); (case b => k_is); (case k => kit_is)
      · refine' UP.p2_mk KX G ?a ?b ?k; (case a => k_is); (case b => k_is); (case k => kit_is)
      · refine' UP.p2_mk KX G ?a ?b ?k; (case a => k_is); (case b => k_is); (case k => kit_is)
      · refine' UP.p2_mk KX G ?a ?b ?k; (case a => k_is); (case b => k_is); (case k => kit_is)
      · refine' UP.p2_mk KX G ?a ?b ?k; (case a => k_is); (case b => k_is); (case k => kit_is)
      · refine' UP.p2_mk KX G ?a ?b ?k; (case a => k_is); (case b => k_is); (case k => kit_is)
      · refine' UP.p1_mk KX G ?a ?b ?x ?k ?bs ?t ?e1 ?e2 ?e3 ?e4 ?e5 ?e6 ?e7 ?m ?k1 ?k2; (case a => k_is); (case b => k_is); (case x => first | k_exc | k_is); (case k => k_is); (case bs => k_is); (case t => k_is); (case e1 => k_is); (case e2 => k_is); (case e3 => k_is); (case e4 => k_is); (case e5 => k_is); (case e6 => k_is); (case e7 => k_is); (case m => kts_exm); (case k1 => kit_is); (case k2 => kit_is)
      · refine' UP.p2_mk KX G ?a ?b ?k; (case a => k_is); (case b => k_is); (case k => kit_is)
      · refine' UP.p2_mk KX G ?a ?b ?k; (case a => k_is); (case b => k_is); (case k => kit_is)
      · refine' UP.p2_mk KX G ?a ?b ?k; (case a => k_is); (case b => k_is); (case k => kit_is)
      · refine' UP.p2_mk KX G ?a ?b ?k; (case a => k_is); (case b => k_is); (case k => kit_is)
      · refine' UP.p2_mk KX G ?a ?b ?k; (case a => k_is); (case b => k_is); (case k => kit_is)
      · refine' UP.p2_mk KX G ?a ?b ?k; (case a => k_is); (case b => k_is); (case k => kit_is)
      · refine' UP.p2_mk KX G ?a ?b ?k; (case a => k_is); (case b => k_is); (case k => kit_is)
      · refine' UP.p2_mk KX G ?a ?b ?k; (case a => k_is); (case b => k_is); (case k => kit_is)
      · refine' UP.p2_mk KX G ?a ?b ?k; (case a => k_is); (case b => k_is); (case k => kit_is)
      · refine' UP.p2_mk KX G ?a ?b ?k; (case a => k_is); (case b => k_is); (case k => kit_is)
      · refine' UP.p2_mk KX G ?a ?b ?k; (case a => k_is); (case b => k_is); (case k => kit_is)
      · refine' UP.p2_mk KX G ?a ?b ?k; (case a => k_is); (case b => k_is); (case k => kit_is)
      · refine' UP.p2_mk KX G ?a ?b ?k; (case a => k_is); (case b => k_is); (case k => kit_is)
      · refine' UP.p2_mk KX G ?a ?b ?k; (case a => k_is); (case b => k_is); (case k => kit_is)
      · refine' UP.p2_mk KX G ?a ?b ?k; (case a => k_is); (case b => k_is); (case k => kit_is)
      · refine' UP.p2_mk KX G ?a ?b ?k; (case a => k_is); (case b => k_is); (case k => kit_is)
      · refine' UP.p2_mk KX G ?a ?b ?k; (case a => k_is); (case b => k_is); (case k => kit_is)
      · refine' UP.p2_mk KX G ?a ?b ?k; (case a => k_is); (case b => k_is); (case k => kit_is)
      · refine' UP.p1_mk KX G ?a ?b ?x ?k ?bs ?t ?e1 ?e2 ?e3 ?e4 ?e5 ?e6 ?e7 ?m ?k1 ?k2; (case a => k_is); (case b => k_is); (case x => first | k_exc | k_is); (case k => k_is); (case bs => k_is); (case t => k_is); (case e1 => k_is); (case e2 => k_is); (case e3 => k_is); (case e4 => k_is); (case e5 => k_is); (case e6 => k_is); (case e7 => k_is); (case m => kts_exm); (case k1 => kit_is); (case k2 => kit_is)
      · refine' UP.p2_mk KX G ?a ?b ?k; (case a => k_is); (case b => k_is); (case k => kit_is)
      · refine' UP.p2_mk KX G ?a ?b ?k; (case a => k_is); (case b => k_is); (case k => kit_is)
      · refine' UP.p2_mk KX G ?a ?b ?k; (case a => k_is); (case b => k_is); (case k => kit_is)
      · refine' UP.p2_mk KX G ?a ?b ?k; (case a => k_is); (case b => k_is); (case k => kit_is)
      · refine' UP.p2_mk KX G ?a ?b ?k; (case a => k_is); (case b => k_is); (case k => kit_is)
      · refine' UP.p2_mk KX G ?a ?b ?k; (case a => k_is); (case b => k_is); (case k => kit_is)
      · refine' UP.p2_mk KX G ?a ?b ?k; (case a => k_is); (case b => k_is); (case k => kit_is)
      · refine' UP.p2_mk KX G ?a ?b ?k; (case a => k_is); (case b => k_is); (case k => kit_is)
      · refine' UP.p2_mk KX G ?a ?b ?k; (case a => k_is); (case b => k_is); (case k => kit_is)
      · refine' UP.p2_mk KX G ?a ?b ?k; (case a => k_is); (case b => k_is); (case k => kit_is)
      · refine' UP.p2_mk KX G ?a ?b ?k; (case a => k_is); (case b => k_is); (case k => kit_is)
      · refine' UP.p2_mk KX G ?a ?b ?k; (case a => k_is); (case b => k_is); (case k => kit_is)
      · refine' UP.p2_mk KX G ?a ?b ?k; (case a => k_is); (case b => k_is); (case k => kit_is)
      · refine' UP.p2_mk KX G ?a ?b ?k; (case a => k_is); (case b => k_is); (case k => kit_is)
      · refine' UP.p2_mk KX G ?a ?b ?k; (case a => k_is); (case b => k_is); (case k => kit_is)
      · refine' UP.p2_mk KX G ?a ?b ?k; (case a => k_is); (case b => k_is); (case k => kit_is)
      · refine' UP.p2_mk KX G ?a ?b ?k; (case a => k_is); (case b => k_is); (case k => kit_is)
      · refine' UP.p2_mk KX G ?a ?b ?k; (case a => k_is); (case b => k_is); (case k => kit_is)
      · refine' UP.p1_mk KX G ?a ?b ?x ?k ?bs ?t ?e1 ?e2 ?e3 ?e4 ?e5 ?e6 ?e7 ?m ?k1 ?k2; (case a => k_is); (case b => k_is); (case x => first | k_exc | k_is); (case k => k_is); (case bs => k_is); (case t => k_is); (case e1 => k_is); (case e2 => k_is); (case e3 => k_is); (case e4 => k_is); (case e5 => k_is); (case e6 => k_is); (case e7 => k_is); (case m => kts_exm); (case k1 => kit_is); (case k2 => kit_is)
      · refine' UP.p2_mk KX G ?a ?b ?k; (case a => k_is); (case b => k_is); (case k => kit_is)
      · refine' UP.p2_mk KX G ?a ?b ?k; (case a => k_is); (case b => k_is); (case k => kit_is)
      · refine' UP.p2_mk KX G ?a ?b ?k; (case a => k_is); (case b => k_is); (case k => kit_is)
      · refine' UP.p2_mk KX G ?a ?b ?k; (case a => k_is); (case b => k_is); (case k => kit_is)
      · refine' UP.p2_mk KX G ?a ?b ?k; (case a => k_is); (case b => k_is); (case k => kit_is)
      · refine' UP.p2_mk KX G ?a ?b ?k; (case a => k_is); (case b => k_is); (case k => kit_is)
      · refine' UP.p2_mk KX G ?a ?b ?k; (case a => k_is); (case b => k_is); (case k => kit_is)
      · refine' UP.p2_mk KX G ?a ?b ?k; (case a => k_is); (case b => k_is); (case k => kit_is)
      · refine' UP.p2_mk KX G ?a ?b ?k; (case a => k_is); (case b => k_is); (case k => kit_is)
      · refine' UP.p2_mk KX G ?a ?b ?k; (case a => k_is); (case b => k_is); (case k => kit_is)
      · refine' UP.p2_mk KX G ?a ?b ?k; (case a => k_is); (case b => k_is); (case k => kit_is)
      · refine' UP.p2_mk KX G ?a ?b ?k; (case a => k_is); (case b => k_is); (case k => kit_is)
      · refine' UP.p2_mk KX G ?a ?b ?k; (case a => k_is); (case b => k_is); (case k => kit_is)
      · refine' UP.p2_mk KX G ?a ?b ?k; (case a => k_is); (case b => k_is); (case k => kit_is)
      · refine' UP.p2_mk KX G ?a ?b ?k; (case a => k_is); (case b => k_is); (case k => kit_is)
      · refine' UP.p2_mk KX G ?a ?b ?k; (case a => k_is); (case b => k_is); (case k => kit_is)
      · refine' UP.p2_mk KX G ?a ?b ?k; (case a => k_is); (case b => k_is); (case k => kit_is)
      · refine' UP.p2_mk KX G ?a ?b ?k; (case a => k_is); (case b => k_is); (case k => kit_is)
      · refine' UP.p1_mk KX G ?a ?b ?x ?k ?bs ?t ?e1 ?e2 ?e3 ?e4 ?e5 ?e6 ?e7 ?m ?k1 ?k2; (case a => k_is); (case b => k_is); (case x => first | k_exc | k_is); (case k => k_is); (case bs => k_is); (case t => k_is); (case e1 => k_is); (case e2 => k_is); (case e3 => k_is); (case e4 => k_is); (case e5 => k_is); (case e6 => k_is); (case e7 => k_is); (case m => kts_exm); (case k1 => kit_is); (case k2 => kit_is)
      · refine' UP.p2_mk KX G ?a ?b ?k; (case a => k_is); (case b => k_is); (case k => kit_is)
      · refine' UP.p2_mk KX G ?a ?b ?k; (case a => k_is); (case b => k_is); (case k => kit_is)
      · refine' UP.p2_mk KX G ?a ?b ?k; (case a => k_is); (case b => k_is); (case k => kit_is)
      · refine' UP.p2_mk KX G ?a ?b ?k; (case a => k_is); (case b => k_is); (case k => kit_is)
      · refine' UP.p2_mk KX G ?a ?b ?k; (case a => k_is); (case b => k_is); (case k => kit_is)
      · refine' UP.p2_mk KX G ?a ?b ?k; (case a => k_is); (case b => k_is); (case k => kit_is)
      · refine' UP.p2_mk KX G ?a ?b ?k; (case a => k_is); (case b => k_is); (case k => kit_is)
      · refine' UP.p2_mk KX G ?a ?b ?k; (case a => k_is); (case b => k_is); (case k => kit_is)
      · refine' UP.p2_mk KX G ?a ?b ?k; (case a => k_is); (case b => k_is); (case k => kit_is)
      · refine' UP.p2_mk KX G ?a ?b ?k; (case a => k_is); (case b => k_is); (case k => kit_is)
      · refine' UP.p2_mk KX G ?a ?b ?k; (case a => k_is); (case b => k_is); (case k => kit_is)
      · refine' UP.p2_mk KX G ?a ?b ?k; (case a => k_is); (case b => k_is); (case k => kit_is)
      · refine' UP.p2_mk KX G ?a ?b ?k; (case a => k_is); (case b => k_is); (case k => kit_is)
      · refine' UP.p2_mk KX G ?a ?b ?k; (case a => k_is); (case b => k_is); (case k => kit_is)
      · refine' UP.p2_mk KX G ?a ?b ?k; (case a => k_is); (case b => k_is); (case k => kit_is)
      · refine' UP.p2_mk KX G ?a ?b ?k; (case a => k_is); (case b => k_is); (case k => kit_is)
      · refine' UP.p2_mk KX G ?a ?b ?k; (case a => k_is); (case b => k_is); (case k => kit_is)
      · refine' UP.p2_mk KX G ?a ?b ?k; (case a => k_is); (case b => k_is); (case k => kit_is)
      · refine' UP.p1_mk KX G ?a ?b ?x ?k ?bs ?t ?e1 ?e2 ?e3 ?e4 ?e5 ?e6 ?e7 ?m ?k1 ?k2; (case a => k_is); (case b => k_is); (case x => first | k_exc | k_is); (case k => k_is); (case bs => k_is); (case t => k_is); (case e1 => k_is); (case e2 => k_is); (case e3 => k_is); (case e4 => k_is); (case e5 => k_is); (case e6 => k_is); (case e7 => k_is); (case m => kts_exm); (case k1 => kit_is); (case k2 => kit_is)
      · refine' UP.p2_mk KX G ?a ?b ?k; (case a => k_is); (case b => k_is); (case k => kit_is)
      · refine' UP.p2_mk KX G ?a ?b ?k; (case a => k_is); (case b => k_is); (case k => kit_is)
      · refine' UP.p2_mk KX G ?a ?b ?k; (case a => k_is); (case b => k_is); (case k => kit_is)
      · refine' UP.p2_mk KX G ?a ?b ?k; (case a => k_is); (case b => k_is); (case k => kit_is)
      · refine' UP.p2_mk KX G ?a ?b ?k; (case a => k_is); (case b => k_is); (case k => kit_is)
      · refine' UP.p2_mk KX G ?a ?b ?k; (case a => k_is); (case b => k_is); (case k => kit_is)
      · refine' UP.p2_mk KX G ?a ?b ?k; (case a => k_is); (case b => k_is); (case k => kit_is)
      · refine' UP.p2_mk KX G ?a ?b ?k; (case a => k_is); (case b => k_is); (case k => kit_is)
      · refine' UP.p2_mk KX G ?a ?b ?k; (case a => k_is); (case b => k_is); (case k => kit_is)
      · refine' UP.p2_mk KX G ?a ?b ?k; (case a => k_is); (case b => k_is); (case k => kit_is)
      · refine' UP.p2_mk KX G ?a ?b ?k; (case a => k_is); (case b => k_is); (case k => kit_is)
      · refine' UP.p2_mk KX G ?a ?b ?k; (case a => k_is); (case b => k_is); (case k => kit_is)
      · refine' UP.p2_mk KX G ?a ?b ?k; (case a => k_is); (case b => k_is); (case k => kit_is)
      · refine' UP.p2_mk KX G ?a ?b ?k; (case a => k_is); (case b => k_is); (case k => kit_is)
      · refine' UP.p2_mk KX G ?a ?b ?k; (case a => k_is); (case b => k_is); (case k => kit_is)
      · refine' UP.p2_mk KX G ?a ?b ?k; (case a => k_is); (case b => k_is); (case k => kit_is)
      · refine' UP.p2_mk KX G ?a ?b ?k; (case a => k_is); (case b => k_is); (case k => kit_is)
      · refine' UP.p2_mk KX G ?a ?b ?k; (case a => k_is); (case b => k_is); (case k => kit_is)
      · refine' UP.p1_mk KX G ?a ?b ?x ?k ?bs ?t ?e1 ?e2 ?e3 ?e4 ?e5 ?e6 ?e7 ?m ?k1 ?k2; (case a => k_is); (case b => k_is); (case x => first | k_exc | k_is); (case k => k_is); (case bs => k_is); (case t => k_is); (case e1 => k_is); (case e2 => k_is); (case e3 => k_is); (case e4 => k_is); (case e5 => k_is); (case e6 => k_is); (case e7 => k_is); (case m => kts_exm); (case k1 => kit_is); (case k2 => kit_is)
      · refine' UP.p2_mk KX G ?a ?b ?k; (case a => k_is); (case b => k_is); (case k => kit_is)
      · refine' UP.p2_mk KX G ?a ?b ?k; (case a => k_is); (case b => k_is); (case k => kit_is)
      · refine' UP.p2_mk KX G ?a ?b ?k; (case a => k_is); (case b => k_is); (case k => kit_is)
      · refine' UP.p2_mk KX G ?a ?b ?k; (case a => k_is); (case b => k_is); (case k => kit_is)
      · refine' UP.p2_mk KX G ?a ?b ?k; (case a => k_is); (case b => k_is); (case k => kit_is)
      · refine' UP.p2_mk KX G ?a ?b ?k; (case a => k_is); (case b => k_is); (case k => kit_is)
      · refine' UP.p2_mk KX G ?a ?b ?k; (case a => k_is); (case b => k_is); (case k => kit_is)
      · refine' UP.p2_mk KX G ?a ?b ?k; (case a => k_is); (case b => k_is); (case k => kit_is)
      · refine' UP.p2_mk KX G ?a ?b ?k; (case a => k_is); (case b => k_is); (case k => kit_is)
      · refine' UP.p2_mk KX G ?a ?b ?k; (case a => k_is); (case b => k_is); (case k => kit_is)
      · refine' UP.p2_mk KX G ?a ?b ?k; (case a => k_is); (case b => k_is); (case k => kit_is)
      · refine' UP.p2_mk KX G ?a ?b ?k; (case a => k_is); (case b => k_is); (case k => kit_is)
      · refine' UP.p2_mk KX G ?a ?b ?k; (case a => k_is); (case b => k_is); (case k => kit_is)
      · refine' UP.p2_mk KX G ?a ?b ?k; (case a => k_is); (case b => k_is); (case k => kit_is)
      · refine' UP.p2_mk KX G ?a ?b ?k; (case a => k_is); (case b => k_is); (case k => kit_is)
      · refine' UP.p2_mk KX G ?a ?b ?k; (case a => k_is); (case b => k_is); (case k => kit_is)
      · refine' UP.p2_mk KX G ?a ?b ?k; (case a => k_is); (case b => k_is); (case k => kit_is)
      · refine' UP.p2_mk KX G ?a ?b ?k; (case a => k_is); (case b => k_is); (case k => kit_is)
      · refine' UP.p1_mk KX G ?a ?b ?x ?k ?bs ?t ?e1 ?e2 ?e3 ?e4 ?e5 ?e6 ?e7 ?m ?k1 ?k2; (case a => k_is); (case b => k_is); (case x => first | k_exc | k_is); (case k => k_is); (case bs => k_is); (case t => k_is); (case e1 => k_is); (case e2 => k_is); (case e3 => k_is); (case e4 => k_is); (case e5 => k_is); (case e6 => k_is); (case e7 => k_is); (case m => kts_exm); (case k1 => kit_is); (case k2 => kit_is)
      · refine' UP.p2_mk KX G ?a ?b ?k; (case a => k_is); (case b => k_is); (case k => kit_is)
      · refine' UP.p2_mk KX G ?a ?b ?k; (case a => k_is); (case b => k_is); (case k => kit_is)
      · refine' UP.p2_mk KX G ?a ?b ?k; (case a => k_is); (case b => k_is); (case k => kit_is)
      · refine' UP.p2_mk KX G ?a ?b ?k; (case a => k_is); (case b => k_is); (case k => kit_is)
      · refine' UP.p2_mk KX G ?a ?b ?k; (case a => k_is); (case b => k_is); (case k => kit_is)
      · refine' UP.p2_mk KX G ?a ?b ?k; (case a => k_is); (case b => k_is); (case k => kit_is)
      · refine' UP.p2_mk KX G ?a ?b ?k; (case a => k_is); (case b => k_is); (case k => kit_is)
      · refine' UP.p2_mk KX G ?a ?b ?k; (case a => k_is); (case b => k_is); (case k => kit_is)
      · refine' UP.p2_mk KX G ?a ?b ?k; (case a => k_is); (case b => k_is); (case k => kit_is)
      · refine' UP.p2_mk KX G ?a ?b ?k; (case a => k_is); (case b => k_is); (case k => kit_is)
      · refine' UP.p2_mk KX G ?a ?b ?k; (case a => k_is); (case b => k_is); (case k => kit_is)
      · refine' UP.p2_mk KX G ?a ?b ?k; (case a => k_is); (case b => k_is); (case k => kit_is)
      · refine' UP.p2_mk KX G ?a ?b ?k; (case a => k_is); (case b => k_is); (case k => kit_is)
      · refine' UP.p2_mk KX G ?a ?b ?k; (case a => k_is); (case b => k_is); (case k => kit_is)
      · refine' UP.p2_mk KX G ?a ?b ?k; (case a => k_is); (case b => k_is); (case k => kit_is)
      · refine' UP.p2_mk KX G ?a ?b ?k; (case a => k_is); (case b => k_is); (case k => kit_is)
      · refine' UP.p2_mk KX G ?a ?b ?k; (case a => k_is); (case b => k_is); (case k => kit_is)
      · refine' UP.p2_mk KX G ?a ?b ?k; (case a => k_is); (case b => k_is); (case k => kit_is)
      · refine' UP.p1_mk KX G ?a ?b ?x ?k ?bs ?t ?e1 ?e2 ?e3 ?e4 ?e5 ?e6 ?e7 ?m ?k1 ?k2; (case a => k_is); (case b => k_is); (case x => first | k_exc | k_is); (case k => k_is); (case bs => k_is); (case t => k_is); (case e1 => k_is); (case e2 => k_is); (case e3 => k_is); (case e4 => k_is); (case e5 => k_is); (case e6 => k_is); (case e7 => k_is); (case m => kts_exm); (case k1 => kit_is); (case k2 => kit_is)
      · refine' UP.p2_mk KX G ?a ?b ?k; (case a => k_is); (case b => k_is); (case k => kit_is)
      · refine' UP.p2_mk KX G ?a ?b ?k; (case a => k_is); (case b => k_is); (case k => kit_is)
      · refine' UP.p2_mk KX G ?a ?b ?k; (case a => k_is); (case b => k_is); (case k => kit_is)
      · refine' UP.p2_mk KX G ?a ?b ?k; (case a => k_is); (case b => k_is); (case k => kit_is)
      · refine' UP.p2_mk KX G ?a ?b ?k; (case a => k_is); (case b => k_is); (case k => kit_is)
      · refine' UP.p2_mk KX G ?a ?b ?k; (case a => k_is); (case b => k_is); (case k => kit_is)
      · refine' UP.p2_mk KX G ?a ?b ?k; (case a => k_is); (case b => k_is); (case k => kit_is)
      · refine' UP.p2_mk KX G ?a ?b ?k; (case a => k_is); (case b => k_is); (case k => kit_is)
      · refine' UP.p2_mk KX G ?a ?b ?k; (case a => k_is); (case b => k_is); (case k => kit_is)
      · refine' UP.p2_mk KX G ?a ?b ?k; (case a => k_is); (case b => k_is); (case k => kit_is)
      · refine' UP.p2_mk KX G ?a ?b ?k; (case a => k_is); (case b => k_is); (case k => kit_is)
      · refine' UP.p2_mk KX G ?a ?b ?k; (case a => k_is); (case b => k_is); (case k => kit_is)
      · refine' UP.p2_mk KX G ?a ?b ?k; (case a => k_is); (case b => k_is); (case k => kit_is)
      · refine' UP.p2_mk KX G ?a ?b ?k; (case a => k_is); (case b => k_is); (case k => kit_is)
      · refine' UP.p2_mk KX G ?a ?b ?k; (case a => k_is); (case b => k_is); (case k => kit_is)
      · refine' UP.p2_mk KX G ?a ?b ?k; (case a => k_is); (case b => k_is); (case k => kit_is)
      · refine' UP.p2_mk KX G ?a ?b ?k; (case a => k_is); (case b => k_is); (case k => kit_is)
      · refine' UP.p2_mk KX G ?a ?b ?k; (case a => k_is); (case b => k_is); (case k => kit_is)
      · refine' UP.p1_mk KX G ?a ?b ?x ?k ?bs ?t ?e1 ?e2 ?e3 ?e4 ?e5 ?e6 ?e7 ?m ?k1 ?k2; (case a => k_is); (case b => k_is); (case x => first | k_exc | k_is); (case k => k_is); (case bs => k_is); (case t => k_is); (case e1 => k_is); (case e2 => k_is); (case e3 => k_is); (case e4 => k_is); (case e5 => k_is); (case e6 => k_is); (case e7 => k_is); (case m => kts_exm); (case k1 => kit_is); (case k2 => kit_is)
      · refine' UP.p2_mk KX G ?a ?b ?k; (case a => k_is); (case b => k_is); (case k => kit_is)
      · refine' UP.p2_mk KX G ?a ?b ?k; (case a => k_is); (case b => k_is); (case k => kit_is)
      · refine' UP.p2_mk KX G ?a ?b ?k; (case a => k_is); (case b => k_is); (case k => kit_is)
      · refine' UP.p2_mk KX G ?a ?b ?k; (case a => k_is); (case b => k_is); (case k => kit_is)
      · refine' UP.p2_mk KX G ?a ?b ?k; (case a => k_is); (case b => k_is); (case k => kit_is)
      · refine' UP.p2_mk KX G ?a ?b ?k; (case a => k_is); (case b => k_is); (case k => kit_is)
      · refine' UP.p2_mk KX G ?a ?b ?k; (case a => k_is); (case b => k_is); (case k => kit_is)
      · refine' UP.p2_mk KX G ?a ?b ?k; (case a => k_is); (case b => k_is); (case k => kit_is)
      · refine' UP.p2_mk KX G ?a ?b ?k; (case a => k_is); (case b => k_is); (case k => kit_is)
      · refine' UP.p2_mk KX G ?a ?b ?k; (case a => k_is); (case b => k_is); (case k => kit_is)
      · refine' UP.p2_mk KX G ?a ?b ?k; (case a => k_is); (case b => k_is); (case k => kit_is)
      · refine' UP.p2_mk KX G ?a ?b ?k; (case a => k_is); (case b => k_is); (case k => kit_is)
      · refine' UP.p2_mk KX G ?a ?b ?k; (case a => k_is); (case b => k_is); (case k => kit_is)
      · refine' UP.p2_mk KX G ?a ?b ?k; (case a => k_is); (case b => k_is); (case k => kit_is)
      · refine' UP.p2_mk KX G ?a ?b ?k; (case a => k_is); (case b => k_is); (case k => kit_is)
      · refine' UP.p2_mk KX G ?a ?b ?k; (case a => k_is); (case b => k_is); (case k => kit_is)
      · refine' UP.p2_mk KX G ?a ?b ?k; (case a => k_is); (case b => k_is); (case k => kit_is)
      · refine' UP.p2_mk KX G ?a ?b ?k; (case a => k_is); (case b => k_is); (case k => kit_is)
      · refine' UP.p1_mk KX G ?a ?b ?x ?k ?bs ?t ?e1 ?e2 ?e3 ?e4 ?e5 ?e6 ?e7 ?m ?k1 ?k2; (case a => k_is); (case b => k_is); (case x => first | k_exc | k_is); (case k => k_is); (case bs => k_is); (case t => k_is); (case e1 => k_is); (case e2 => k_is); (case e3 => k_is); (case e4 => k_is); (case e5 => k_is); (case e6 => k_is); (case e7 => k_is); (case m => kts_exm); (case k1 => kit_is); (case k2 => kit_is)
      · refine' UP.p2_mk KX G ?a ?b ?k; (case a => k_is); (case b => k_is); (case k => kit_is)
      · refine' UP.p2_mk KX G ?a ?b ?k; (case a => k_is); (case b => k_is); (case k => kit_is)
      · refine' UP.p2_mk KX G ?a ?b ?k; (case a => k_is); (case b => k_is); (case k => kit_is)
      · refine' UP.p2_mk KX G ?a ?b ?k; (case a => k_is); (case b => k_is); (case k => kit_is)
      · refine' UP.p2_mk KX G ?a ?b ?k; (case a => k_is); (case b => k_is); (case k => kit_is)
      · refine' UP.p2_mk KX G ?a ?b ?k; (case a => k_is); (case b => k_is); (case k => kit_is)
      · refine' UP.p2_mk KX G ?a ?b ?k; (case a => k_is); (case b => k_is); (case k => kit_is)
      · refine' UP.p2_mk KX G ?a ?b ?k; (case a => k_is); (case b => k_is); (case k => kit_is)
      · refine' UP.p2_mk KX G ?a ?b ?k; (case a => k_is); (case b => k_is); (case k => kit_is)
      · refine' UP.p2_mk KX G ?a ?b ?k; (case a => k_is); (case b => k_is); (case k => kit_is)
      · refine' UP.p2_mk KX G ?a ?b ?k; (case a => k_is); (case b => k_is); (case k => kit_is)
      · refine' UP.p2_mk KX G ?a ?b ?k; (case a => k_is); (case b => k_is); (case k => kit_is)
      · refine' UP.p2_mk KX G ?a ?b ?k; (case a => k_is); (case b => k_is); (case k => kit_is)
      · refine' UP.p2_mk KX G ?a ?b ?k; (case a => k_is); (case b => k_is); (case k => kit_is)
      · refine' UP.p2_mk KX G ?a ?b ?k; (case a => k_is); (case b => k_is); (case k => kit_is)
      · refine' UP.p2_mk KX G ?a ?b ?k; (case a => k_is); (case b => k_is); (case k => kit_is)
      · refine' UP.p2_mk KX G ?a ?b ?k; (case a => k_is); (case b => k_is); (case k => kit_is)
      · refine' UP.p2_mk KX G ?a ?b ?k; (case a => k_is); (case b => k_is); (case k => kit_is)
      · refine' UP.p1_mk KX G ?a ?b ?x ?k ?bs ?t ?e1 ?e2 ?e3 ?e4 ?e5 ?e6 ?e7 ?m ?k1 ?k2; (case a => k_is); (case b => k_is); (case x => first | k_exc | k_is); (case k => k_is); (case bs => k_is); (case t => k_is); (case e1 => k_is); (case e2 => k_is); (case e3 => k_is); (case e4 => k_is); (case e5 => k_is); (case e6 => k_is); (case e7 => k_is); (case m => kts_exm); (case k1 => kit_is); (case k2 => kit_is)
      · refine' UP.p2_mk KX G ?a ?b ?k; (case a => k_is); (case b => k_is); (case k => kit_is)
      · refine' UP.p2_mk KX G ?a ?b ?k; (case a => k_is); (case b => k_is); (case k => kit_is)
      · refine' UP.p2_mk KX G ?a ?b ?k; (case a => k_is); (case b => k_is); (case k => kit_is)
      · refine' UP.p2_mk KX G ?a ?b ?k; (case a => k_is); (case b => k_is); (case k => kit_is)
      · refine' UP.p2_mk KX G ?a ?b ?k; (case a => k_is); (case b => k_is); (case k => kit_is)
      · refine' UP.p2_mk KX G ?a ?b ?k; (case a => k_is); (case b => k_is); (case k => kit_is)
      · refine' UP.p2_mk KX G ?a ?b ?k; (case a => k_is); (case b => k_is); (case k => kit_is)
      · refine' UP.p2_mk KX G ?a ?b ?k; (case a => k_is); (case b => k_is); (case k => kit_is)
      · refine' UP.p2_mk KX G ?a ?b ?k; (case a => k_is); (case b => k_is); (case k => kit_is)
      · refine' UP.p2_mk KX G ?a ?b ?k; (case a => k_is); (case b => k_is); (case k => kit_is)
      · refine' UP.p2_mk KX G ?a ?b ?k; (case a => k_is); (case b => k_is); (case k => kit_is)
      · refine' UP.p2_mk KX G ?a ?b ?k; (case a => k_is); (case b => k_is); (case k => kit_is)
      · refine' UP.p2_mk KX G ?a ?b ?k; (case a => k_is); (case b => k_is); (case k => kit_is)
      · refine' UP.p2_mk KX G ?a ?b ?k; (case a => k_is); (case b => k_is); (case k => kit_is)
      · refine' UP.p2_mk KX G ?a ?b ?k; (case a => k_is); (case b => k_is); (case k => kit_is)
      · refine' UP.p2_mk KX G ?a ?b ?k; (case a => k_is); (case b => k_is); (case k => kit_is)
      · refine' UP.p2_mk KX G ?a ?b ?k; (case a => k_is); (case b => k_is); (case k => kit_is)
      · refine' UP.p2_mk KX G ?a ?b ?k; (case a => k_is); (case b => k_is); (case k => kit_is)
      · refine' UP.p1_mk KX G ?a ?b ?x ?k ?bs ?t ?e1 ?e2 ?e3 ?e4 ?e5 ?e6 ?e7 ?m ?k1 ?k2; (case a => k_is); (case b => k_is); (case x => first | k_exc | k_is); (case k => k_is); (case bs => k_is); (case t => k_is); (case e1 => k_is); (case e2 => k_is); (case e3 => k_is); (case e4 => k_is); (case e5 => k_is); (case e6 => k_is); (case e7 => k_is); (case m => kts_exm); (case k1 => kit_is); (case k2 => kit_is)
      · refine' UP.p2_mk KX G ?a ?b ?k; (case a => k_is); (case b => k_is); (case k => kit_is)
      · refine' UP.p2_mk KX G ?a ?b ?k; (case a => k_is); (case b => k_is); (case k => kit_is)
      · refine' UP.p2_mk KX G ?a ?b ?k; (case a => k_is); (case b => k_is); (case k => kit_is)
      · refine' UP.p2_mk KX G ?a ?b ?k; (case a => k_is); (case b => k_is); (case k => kit_is)
      · refine' UP.p2_mk KX G ?a ?b ?k; (case a => k_is); (case b => k_is); (case k => kit_is)
      · refine' UP.p2_mk KX G ?a ?b ?k; (case a => k_is); (case b => k_is); (case k => kit_is)
      · refine' UP.p2_mk KX G ?a ?b ?k; (case a => k_is); (case b => k_is); (case k => kit_is)
      · refine' UP.p2_mk KX G ?a ?b ?k; (case a => k_is); (case b => k_is); (case k => kit_is)
      · refine' UP.p2_mk KX G ?a ?b ?k; (case a => k_is); (case b => k_is); (case k => kit_is)
      · refine' UP.p2_mk KX G ?a ?b ?k; (case a => k_is); (case b => k_is); (case k => kit_is)
      · refine' UP.p2_mk KX G ?a ?b ?k; (case a => k_is); (case b => k_is); (case k => kit_is)
      · refine' UP.p2_mk KX G ?a ?b ?k; (case a => k_is); (case b => k_is); (case k => kit_is)
      · refine' UP.p2_mk KX G ?a ?b ?k; (case a => k_is); (case b => k_is); (case k => kit_is)
      · refine' UP.p2_mk KX G ?a ?b ?k; (case a => k_is); (case b => k_is); (case k => kit_is)
      · refine' UP.p2_mk KX G ?a ?b ?k; (case a => k_is); (case b => k_is); (case k => kit_is)
      · refine' UP.p2_mk KX G ?a ?b ?k; (case a => k_is); (case b => k_is); (case k => kit_is)
      · refine' UP.p2_mk KX G ?a ?b ?k; (case a => k_is); (case b => k_is); (case k => kit_is)
      · refine' UP.p2_mk KX G ?a ?b ?k; (case a => k_is); (case b => k_is); (case k => kit_is)
      · refine' UP.p0_mk KX G ?a ?b ?bs ?e1 ?e2 ?e3 ?e4 ?e5 ?e6 ?e7 ?m ?k1 ?k2; (case a => k_is); (case b => k_is); (case bs => k_is); (case e1 => k_is); (case e2 => k_is); (case e3 => k_is); (case e4 => k_is); (case e5 => k_is); (case e6 => k_is); (case e7 => k_is); (case m => kts_exm); (case k1 => kit_is); (case k2 => kit_is)
      · refine' UP.own_InvalidText_mk KX G ?a ?l ?r ?sa ?xc ?ty ?kc ?f1 ?f2 ?f3 ?n ?ic ?ti ?fl ?fc ?fk; (case a => k_is); (case l => k_is); (case r => decide); (case sa => k_is); (case xc => k_is); (case ty => k_is); (case kc => k_is); (case f1 => k_is); (case f2 => k_is); (case f3 => k_is); (case n => k_is); (case ic => k_is); (case ti => k_is); (case fl => k_is); (case fc => k_is); (case fk => k_is)
      · refine' UP.p2_mk KX G ?a ?b ?k; (case a => k_is); (case b => k_is); (case k => kit_is)
      · refine' UP.p2_mk KX G ?a ?b ?k; (case a => k_is); (case b => k_is); (case k => kit_is)
      · refine' UP.p2_mk KX G ?a ?b ?k; (case a => k_is); (case b => k_is); (case k => kit_is)
      · refine' UP.p2_mk KX G ?a ?b ?k; (case a => k_is); (case b => k_is); (case k => kit_is)
      · refine' UP.p2_mk KX G ?a ?b ?k; (case a => k_is); (case b => k_is); (case k => kit_is)
      · refine' UP.p2_mk KX G ?a ?b ?k; (case a => k_is); (case b => k_is); (case k => kit_is)
      · refine' UP.p2_mk KX G ?a ?b ?k; (case a => k_is); (case b => k_is); (case k => kit_is)
      · refine' UP.p2_mk KX G ?a ?b ?k; (case a => k_is); (case b => k_is); (case k => kit_is)
      · refine' UP.p2_mk KX G ?a ?b ?k; (case a => k_is); (case b => k_is); (case k => kit_is)
      · refine' UP.p2_mk KX G ?a ?b ?k; (case a => k_is); (case b => k_is); (case k => kit_is)
      · refine' UP.p2_mk KX G ?a ?b ?k; (case a => k_is); (case b => k_is); (case k => kit_is)
      · refine' UP.p2_mk KX G ?a ?b ?k; (case a => k_is); (case b => k_is); (case k => kit_is)
      · refine' UP.p2_mk KX G ?a ?b ?k; (case a => k_is); (case b => k_is); (case k => kit_is)
      · refine' UP.p2_mk KX G ?a ?b ?k; (case a => k_is); (case b => k_is); (case k => kit_is)
      · refine' UP.p2_mk KX G ?a ?b ?k; (case a => k_is); (case b => k_is); (case k => kit_is)
      · refine' UP.p2_mk KX G ?a ?b ?k; (case a => k_is); (case b => k_is); (case k => kit_is)
      · refine' UP.p2_mk KX G ?a ?b ?k; (case a => k_is); (case b => k_is); (case k => kit_is)
      · refine' UP.p2_mk KX G ?a ?b ?k; (case a => k_is); (case b => k_is); (case k => kit_is)
      · refine' UP.p0_mk KX G ?a ?b ?bs ?e1 ?e2 ?e3 ?e4 ?e5 ?e6 ?e7 ?m ?k1 ?k2; (case a => k_is); (case b => k_is); (case bs => k_is); (case e1 => k_is); (case e2 => k_is); (case e3 => k_is); (case e4 => k_is); (case e5 => k_is); (case e6 => k_is); (case e7 => k_is); (case m => kts_exm); (case k1 => kit_is); (case k2 => kit_is)
      · refine' UP.own_TooMany_mk KX G ?a ?l ?r ?sa ?xc ?ty ?kc ?f1 ?f2 ?f3 ?n ?ic ?ti ?fl ?fc ?fk; (case a => k_is); (case l => k_is); (case r => decide); (case sa => k_is); (case xc => k_is); (case ty => k_is); (case kc => k_is); (case f1 => k_is); (case f2 => k_is); (case f3 => k_is); (case n => k_is); (case ic => k_is); (case ti => k_is); (case fl => k_is); (case fc => k_is); (case fk => k_is)
      · refine' UP.p2_mk KX G ?a ?b ?k; (case a => k_is); (case b => k_is); (case k => kit_is)
      · refine' UP.p2_mk KX G ?a ?b ?k; (case a => k_is); (case b => k_is); (case k => kit_is)
      · refine' UP.p2_mk KX G ?a ?b ?k; (case a => k_is); (case b => k_is); (case k => kit_is)
      · refine' UP.p2_mk KX G ?a ?b ?k; (case a => k_is); (case b => k_is); (case k => kit_is)
      · refine' UP.p2_mk KX G ?a ?b ?k; (case a => k_is); (case b => k_is); (case k => kit_is)
      · refine' UP.p2_mk KX G ?a ?b ?k; (case a => k_is); (case b => k_is); (case k => kit_is)
      · refine' UP.p2_mk KX G ?a ?b ?k; (case a => k_is); (case b => k_is); (case k => kit_is)
      · refine' UP.p2_mk KX G ?a ?b ?k; (case a => k_is); (case b => k_is); (case k => kit_is)
      · refine' UP.p2_mk KX G ?a ?b ?k; (case a => k_is); (case b => k_is); (case k => kit_is)
      · refine' UP.p2_mk KX G ?a ?b ?k; (case a => k_is); (case b => k_is); (case k => kit_is)
      · refine' UP.p2_mk KX G ?a ?b ?k; (case a => k_is); (case b => k_is); (case k => kit_is)
      · refine' UP.p2_mk KX G ?a ?b ?k; (case a => k_is); (case b => k_is); (case k => kit_is)
      · refine' UP.p2_mk KX G ?a ?b ?k; (case a => k_is); (case b => k_is); (case k => kit_is)
      · refine' UP.p2_mk KX G ?a ?b ?k; (case a => k_is); (case b => k_is); (case k => kit_is)
      · refine' UP.p2_mk KX G ?a ?b ?k; (case a => k_is); (case b => k_is); (case k => kit_is)
      · refine' UP.p2_mk KX G ?a ?b ?k; (case a => k_is); (case b => k_is); (case k => kit_is)
      · refine' UP.p2_mk KX G ?a ?b ?k; (case a => k_is); (case b => k_is); (case k => kit_is)
      · refine' UP.p2_mk KX G ?a ?b ?k; (case a => k_is); (case b => k_is); (case k => kit_is)
      · refine' UP.p0_mk KX G ?a ?b ?bs ?e1 ?e2 ?e3 ?e4 ?e5 ?e6 ?e7 ?m ?k1 ?k2; (case a => k_is); (case b => k_is); (case bs => k_is); (case e1 => k_is); (case e2 => k_is); (case e3 => k_is); (case e4 => k_is); (case e5 => k_is); (case e6 => k_is); (case e7 => k_is); (case m => kts_exm); (case k1 => kit_is); (case k2 => kit_is)
      · refine' UP.own_Impossible_mk KX G ?a ?l ?r ?sa ?xc ?ty ?kc ?f1 ?f2 ?f3 ?n ?ic ?ti ?fl ?fc ?fk; (case a => k_is); (case l => k_is); (case r => decide); (case sa => k_is); (case xc => k_is); (case ty => k_is); (case kc => k_is); (case f1 => k_is); (case f2 => k_is); (case f3 => k_is); (case n => k_is); (case ic => k_is); (case ti => k_is); (case fl => k_is); (case fc => k_is); (case fk => k_is)
      · refine' UP.p2_mk KX G ?a ?b ?k; (case a => k_is); (case b => k_is); (case k => kit_is)
      · refine' UP.p2_mk KX G ?a ?b ?k; (case a => k_is); (case b => k_is); (case k => kit_is)
      · refine' UP.p2_mk KX G ?a ?b ?k; (case a => k_is); (case b => k_is); (case k => kit_is)
      · refine' UP.p2_mk KX G ?a ?b ?k; (case a => k_is); (case b => k_is); (case k => kit_is)
      · refine' UP.p2_mk KX G ?a ?b ?k; (case a => k_is); (case b => k_is); (case k => kit_is)
      · refine' UP.p2_mk KX G ?a ?b ?k; (case a => k_is); (case b => k_is); (case k => kit_is)
      · refine' UP.p2_mk KX G ?a ?b ?k; (case a => k_is); (case b => k_is); (case k => kit_is)
      · refine' UP.p2_mk KX G ?a ?b ?k; (case a => k_is); (case b => k_is); (case k => kit_is)
      · refine' UP.p2_mk KX G ?a ?b ?k; (case a => k_is); (case b => k_is); (case k => kit_is)
      · refine' UP.p2_mk KX G ?a ?b ?k; (case a => k_is); (case b => k_is); (case k => kit_is)
      · refine' UP.p2_mk KX G ?a ?b ?k; (case a => k_is); (case b => k_is); (case k => kit_is)
      · refine' UP.p2_mk KX G ?a ?b ?k; (case a => k_is); (case b => k_is); (case k => kit_is)
      · refine' UP.p2_mk KX G ?a ?b ?k; (case a => k_is); (case b => k_is); (case k => kit_is)
      · refine' UP.p2_mk KX G ?a ?b ?k; (case a => k_is); (case b => k_is); (case k => kit_is)
      · refine' UP.p2_mk KX G ?a ?b ?k; (case a => k_is); (case b => k_is); (case k => kit_is)
      · refine' UP.p2_mk KX G ?a ?b ?k; (case a => k_is); (case b => k_is); (case k => kit_is)
      · refine' UP.p2_mk KX G ?a ?b ?k; (case a => k_is); (case b => k_is); (case k => kit_is)
      · refine' UP.p2_mk KX G ?a ?b ?k; (case a => k_is); (case b => k_is); (case k => kit_is)
      · refine' UP.p0_mk KX G ?a ?b ?bs ?e1 ?e2 ?e3 ?e4 ?e5 ?e6 ?e7 ?m ?k1 ?k2; (case a => k_is); (case b => k_is); (case bs => k_is); (case e1 => k_is); (case e2 => k_is); (case e3 => k_is); (case e4 => k_is); (case e5 => k_is); (case e6 => k_is); (case e7 => k_is); (case m => kts_exm); (case k1 => kit_is); (case k2 => kit_is)
      · refine' UP.own_Contradiction_mk KX G ?a ?l ?r ?sa ?xc ?ty ?kc ?f1 ?f2 ?f3 ?n ?ic ?ti ?fl ?fc ?fk; (case a => k_is); (case l => k_is); (case r => decide); (case sa => k_is); (case xc => k_is); (case ty => k_is); (case kc => k_is); (case f1 => k_is); (case f2 => k_is); (case f3 => k_is); (case n => k_is); (case ic => k_is); (case ti => k_is); (case fl => k_is); (case fc => k_is); (case fk => k_is)
      · refine' UP.p2_mk KX G ?a ?b ?k; (case a => k_is); (case b => k_is); (case k => kit_is)
      · refine' UP.p2_mk KX G ?a ?b ?k; (case a => k_is); (case b => k_is); (case k => kit_is)
      · refine' UP.p2_mk KX G ?a ?b ?k; (case a => k_is); (case b => k_is); (case k => kit_is)
      · refine' UP.p2_mk KX G ?a ?b ?k; (case a => k_is); (case b => k_is); (case k => kit_is)
      · refine' UP.p2_mk KX G ?a ?b ?k; (case a => k_is); (case b => k_is); (case k => kit_is)
      · refine' UP.p2_mk KX G ?a ?b ?k; (case a => k_is); (case b => k_is); (case k => kit_is)
      · refine' UP.p2_mk KX G ?a ?b ?k; (case a => k_is); (case b => k_is); (case k => kit_is)
      · refine' UP.p2_mk KX G ?a ?b ?k; (case a => k_is); (case b => k_is); (case k => kit_is)
      · refine' UP.p2_mk KX G ?a ?b ?k; (case a => k_is); (case b => k_is); (case k => kit_is)
      · refine' UP.p2_mk KX G ?a ?b ?k; (case a => k_is); (case b => k_is); (case k => kit_is)
      · refine' UP.p2_mk KX G ?a ?b ?k; (case a => k_is); (case b => k_is); (case k => kit_is)
      · refine' UP.p2_mk KX G ?a ?b ?k; (case a => k_is); (case b => k_is); (case k => kit_is)
      · refine' UP.p2_mk KX G ?a ?b ?k; (case a => k_is); (case b => k_is); (case k => kit_is)
      · refine' UP.p2_mk KX G ?a ?b ?k; (case a => k_is); (case b => k_is); (case k => kit_is)
      · refine' UP.p2_mk KX G ?a ?b ?k; (case a => k_is); (case b => k_is); (case k => kit_is)
      · refine' UP.p2_mk KX G ?a ?b ?k; (case a => k_is); (case b => k_is); (case k => kit_is)
      · refine' UP.p2_mk KX G ?a ?b ?k; (case a => k_is); (case b => k_is); (case k => kit_is)
      · refine' UP.p2_mk KX G ?a ?b ?k; (case a => k_is); (case b => k_is); (case k => kit_is)
      · refine' UP.df_mk KX G ?a ?l ?c ?k; (case a => k_is); (case l => k_is); (case c => k_is); (case k => k_is)
      · refine' UP.df_mk KX G ?a ?l ?c ?k; (case a => k_is); (case l => k_is); (case c => k_is); (case k => k_is)
      · refine' UP.df_mk KX G ?a ?l ?c ?k; (case a => k_is); (case l => k_is); (case c => k_is); (case k => k_is)
      · refine' UP.df_mk KX G ?a ?l ?c ?k; (case a => k_is); (case l => k_is); (case c => k_is); (case k => k_is)
      · refine' UP.df_mk KX G ?a ?l ?c ?k; (case a => k_is); (case l => k_is); (case c => k_is); (case k => k_is)
      · refine' UP.df_mk KX G ?a ?l ?c ?k; (case a => k_is); (case l => k_is); (case c => k_is); (case k => k_is)
      · refine' UP.df_mk KX G ?a ?l ?c ?k; (case a => k_is); (case l => k_is); (case c => k_is); (case k => k_is)
      · refine' UP.df_mk KX G ?a ?l ?c ?k; (case a => k_is); (case l => k_is); (case c => k_is); (case k => k_is)
      · refine' UP.df_mk KX G ?a ?l ?c ?k; (case a => k_is); (case l => k_is); (case c => k_is); (case k => k_is)
      · refine' UP.df_mk KX G ?a ?l ?c ?k; (case a => k_is); (case l => k_is); (case c => k_is); (case k => k_is)
      · refine' UP.df_mk KX G ?a ?l ?c ?k; (case a => k_is); (case l => k_is); (case c => k_is); (case k => k_is)
      · refine' UP.df_mk KX G ?a ?l ?c ?k; (case a => k_is); (case l => k_is); (case c => k_is); (case k => k_is)
      · refine' UP.df_mk KX G ?a ?l ?c ?k; (case a => k_is); (case l => k_is); (case c => k_is); (case k => k_is)
      · refine' UP.df_mk KX G ?a ?l ?c ?k; (case a => k_is); (case l => k_is); (case c => k_is); (case k => k_is)
      · refine' UP.df_mk KX G ?a ?l ?c ?k; (case a => k_is); (case l => k_is); (case c => k_is); (case k => k_is)
      · refine' UP.df_mk KX G ?a ?l ?c ?k; (case a => k_is); (case l => k_is); (case c => k_is); (case k => k_is)
      · refine' UP.df_mk KX G ?a ?l ?c ?k; (case a => k_is); (case l => k_is); (case c => k_is); (case k => k_is)
      · refine' UP.df_mk KX G ?a ?l ?c ?k; (case a => k_is); (case l => k_is); (case c => k_is); (case k => k_is)
      · refine' UP.df_mk KX G ?a ?l ?c ?k; (case a => k_is); (case l => k_is); (case c => k_is); (case k => k_is)
      · refine' UP.df_mk KX G ?a ?l ?c ?k; (case a => k_is); (case l => k_is); (case c => k_is); (case k => k_is)
      · refine' UP.df_mk KX G ?a ?l ?c ?k; (case a => k_is); (case l => k_is); (case c => k_is); (case k => k_is)
      · refine' UP.df_mk KX G ?a ?l ?c ?k; (case a => k_is); (case l => k_is); (case c => k_is); (case k => k_is)
      · refine' UP.df_mk KX G ?a ?l ?c ?k; (case a => k_is); (case l => k_is); (case c => k_is); (case k => k_is)
      · refine' UP.df_mk KX G ?a ?l ?c ?k; (case a => k_is); (case l => k_is); (case c => k_is); (case k => k_is)
      · refine' UP.df_mk KX G ?a ?l ?c ?k; (case a => k_is); (case l => k_is); (case c => k_is); (case k => k_is)
      · refine' UP.df_mk KX G ?a ?l ?c ?k; (case a => k_is); (case l => k_is); (case c => k_is); (case k => k_is)
      · refine' UP.df_mk KX G ?a ?l ?c ?k; (case a => k_is); (case l => k_is); (case c => k_is); (case k => k_is)
      · refine' UP.df_mk KX G ?a ?l ?c ?k; (case a => k_is); (case l => k_is); (case c => k_is); (case k => k_is)
      · refine' UP.df_mk KX G ?a ?l ?c ?k; (case a => k_is); (case l => k_is); (case c => k_is); (case k => k_is)
      · refine' UP.df_mk KX G ?a ?l ?c ?k; (case a => k_is); (case l => k_is); (case c => k_is); (case k => k_is)
