import PyProof.Rows.All
import Wide.All
import OpenK.AllK
import Wide.FinOn
import HandS.ForMost
import HandS.Wide
import HandS.IsInst
import HandS.Defaults
import HandS.Codes
import HandS.Style
import PyProof.ReprRoads
import PyProof.ReprLen
import HandS.Zip
import HandS.NoneIn
import HandS.TupAny
import HandS.DictTup
import HandS.SortRule
import HandS.SortOrd
import HandS.ListItems
import KE.KDictWalk
import HandS.TupSets
import HandS.SetFor
import PyProof.ListStr
import PySem.Challenge.RW_unlikepairs_k02_lengths_kinds_and_parts
set_option Elab.async false
set_option linter.all false
set_option maxRecDepth 100000
set_option maxHeartbeats 4000000
namespace UP
open PySem PySem.Spec PyProof.Rows L2

/-! ### a def that keeps a promise, by its name -/
section
variable (P : Program) (w : World) (K : PySem.W.Frag) (mg : Str → Option Value) (base : Heap)
def Has (k : Nat) (x : Str) (ps : List Str) (sp : Sp) : Prop :=
  ∃ f fd, mg x = some (.ref f) ∧ PySem.W.keepIn K (.ref f) = true ∧ Binds K fd ps [] ∧ FnOk P w K mg base CX0 k f fd ps sp
def Df (x : Str) (st : Stmt) : Prop := ∃ f fd, mg x = some (.ref f) ∧ Fun K x x st f fd
end
theorem Df.of {K : PySem.W.Frag} {mg : Str → Option Value} {x : Str} {st : Stmt} {f : Addr} {fd : FuncData} (g : mg x = some (.ref f)) (F : Fun K x x st f fd) : Df K mg x st := ⟨f, fd, g, F⟩
section
variable {P : Program} {w : World} {K : PySem.W.Frag} {mg : Str → Option Value} {base : Heap}
theorem has_of {x : Str} {st : Stmt} {ps N : List Str} {k : Nat} {sp : Sp} (D : Df K mg x st) (S : FnScope N ps (defScope st))
    (hb : ∀ (kV doc pm : Value) (an : Option Addr) (cdv ct : Value) (us : List Value), us.length = ps.length → bindArgs (PySem.W.fnOf x x (defArgs st) (defBody st) (defScope st) .none kV doc pm an cdv ct) ⟨us, []⟩ = pure (ps.zip us))
    (len : ∀ vs H Q E, sp vs H Q E → vs.length = ps.length)
    (body : ∀ (f : Addr) (cdv : Value) (A : Around) (outer : List Env) (s : Shared) (H : Hp) (vs : List V) (Q : VK) (E : XK), Room k (A.deeper (envOfC x (defScope st) s.heap.objs.size f cdv)) → sp vs H Q E →
      ∃ t, PSs (cxOf CX0 P w K mg base N x (defScope st) f cdv A outer s H E).nox (defBody st) t ∧ t { nx := fun _ H' => Q .non H', rt := Q } (start N vs) H) :
    Has P w K mg base (k + 1) x ps sp := by
  obtain ⟨f, fd, g, F⟩ := D
  exact ⟨f, fd, g, F.kp, F.binds hb, F.ok S len fun cdv A outer s H vs Q E hr h => body f cdv A outer s H vs Q E hr h⟩
theorem Has.weak {x : Str} {ps : List Str} {k : Nat} {sp sp' : Sp} (h : Has P w K mg base k x ps sp) (e : sp = sp') : Has P w K mg base k x ps sp' := e ▸ h
end
section
variable {X : Cx}
theorem pe_callH {k : Nat} {x : Str} {ps : List Str} {sp : Sp} {p pos : Pos} {e : Expr} {es : List Expr} {t : TA} (G : Has X.prog X.w X.K X.mg X.base k x ps sp) (hr : Room k X.A) (hg : Gl X x) (ha : PA X (e :: es) t)
    (hdb : (x == ("__debug__" : Str)) = false := by decide) (he : starEach (e :: es) X.env = (false, eval e X.env) :: starEach es X.env := by rfl) (hpl : (backTo pos (starEach es X.env)).any (·.1) = false := by rfl) :
    PE X (.Call (.Name x p) (e :: es) [] pos) (tCall sp [] E0 t) := by
  obtain ⟨f, fd, g, kp, b, F⟩ := G
  exact pe_call F hr hg g kp b .nil pass0 ha hdb he hpl
theorem pe_glI {x : Str} {i : Int} {pos : Pos} (h : ∃ t, X.mg x = some (.int i t)) (hg : Gl X x) (hd : (x == ("__debug__" : Str)) = false := by decide) : PE X (.Name x pos) (tC (.int i)) := by
  obtain ⟨t, h⟩ := h
  exact pe_glob hg h ⟨t, rfl⟩ hd
end

/-! ### heaps -/
theorem same_upd {H : Hp} {p : Addr} {o : HO} (h : H p = none) : Same H (upd H p o) := fun b x e => by
  rw [upd_ne (ne_of_none e h)]
  exact e
/-- all but the object at sp is as it was -/
def But (sp : Addr) (H H' : Hp) : Prop := ∀ b o, b ≠ sp → H b = some o → H' b = some o
theorem Same.but {sp : Addr} {H H' : Hp} (h : Same H H') : But sp H H' := fun b o _ e => h b o e
theorem But.trans {sp : Addr} {H H1 H2 : Hp} (a : But sp H H1) (b : But sp H1 H2) : But sp H H2 := fun c o n e => b c o n (a c o n e)
theorem But.refl {sp : Addr} {H : Hp} : But sp H H := fun _ _ _ e => e
theorem but_upd {sp : Addr} {H : Hp} {o : HO} : But sp H (upd H sp o) := fun b x n e => by
  rw [upd_ne n]
  exact e
theorem small {n : Nat} (h : n ≤ 1000000) : n < sizeLine := Nat.lt_of_le_of_lt h (by decide)
theorem smallE {n : Nat} (h : n ≤ 1000000) : n ≤ sizeLine := Nat.le_of_lt (small h)

/-! ### runs and states -/
abbrev Run := Str × Int
def RunV (H : Hp) (v : V) (r : Run) : Prop := ∃ t, v = .ref t ∧ H t = some (.tup [.str r.1, .int r.2])
def Runs (H : Hp) (a : Addr) (rs : List Run) : Prop := ∃ xs, H a = some (.lst xs) ∧ Paired (RunV H) xs rs
def StV (H : Hp) (v : V) : Option Run → Prop
  | none => v = .non
  | some r => RunV H v r
theorem RunV.same {H H' : Hp} {v : V} {r : Run} (s : Same H H') (h : RunV H v r) : RunV H' v r := by
  obtain ⟨t, e, h⟩ := h
  exact ⟨t, e, s _ _ h⟩
theorem Paired.len {α β : Type} {F : α → β → Prop} : ∀ {l₁ : List α} {l₂ : List β}, Paired F l₁ l₂ → l₁.length = l₂.length
  | _, _, .nil => rfl
  | _, _, .cons _ t => congrArg Nat.succ (Paired.len t)
theorem Paired.at {α β : Type} {F : α → β → Prop} : ∀ {l₁ : List α} {l₂ : List β} {i : Nat} {x : α}, Paired F l₁ l₂ → l₁[i]? = some x → ∃ y, l₂[i]? = some y ∧ F x y
  | _, _, _, _, .nil, h => by simp at h
  | _, _, 0, _, .cons h _, e => by
    simp only [List.getElem?_cons_zero, Option.some.injEq] at e
    subst e
    exact ⟨_, by simp, h⟩
  | _, _, i + 1, _, .cons _ t, e => by
    simp only [List.getElem?_cons_succ] at e ⊢
    exact Paired.at t e
theorem Paired.at' {α β : Type} {F : α → β → Prop} : ∀ {l₁ : List α} {l₂ : List β} {i : Nat} {y : β}, Paired F l₁ l₂ → l₂[i]? = some y → ∃ x, l₁[i]? = some x ∧ F x y
  | _, _, _, _, .nil, h => by simp at h
  | _, _, 0, _, .cons h _, e => by
    simp only [List.getElem?_cons_zero, Option.some.injEq] at e
    subst e
    exact ⟨_, by simp, h⟩
  | _, _, i + 1, _, .cons _ t, e => by
    simp only [List.getElem?_cons_succ] at e ⊢
    exact Paired.at' t e
theorem Paired.imp {α β : Type} {F G : α → β → Prop} (f : ∀ a b, F a b → G a b) : ∀ {l₁ : List α} {l₂ : List β}, Paired F l₁ l₂ → Paired G l₁ l₂
  | _, _, .nil => .nil
  | _, _, .cons h t => .cons (f _ _ h) (Paired.imp f t)
theorem Paired.app {α β : Type} {F : α → β → Prop} : ∀ {l₁ m₁ : List α} {l₂ m₂ : List β}, Paired F l₁ l₂ → Paired F m₁ m₂ → Paired F (l₁ ++ m₁) (l₂ ++ m₂)
  | _, _, _, _, .nil, h => h
  | _, _, _, _, .cons h t, k => .cons h (Paired.app t k)
theorem Paired.dropp {α β : Type} {F : α → β → Prop} : ∀ {l₁ : List α} {l₂ : List β} (n : Nat), Paired F l₁ l₂ → Paired F (l₁.drop n) (l₂.drop n)
  | _, _, 0, h => h
  | _, _, n + 1, .nil => .nil
  | _, _, n + 1, .cons _ t => by
    simp only [List.drop_succ_cons]
    exact Paired.dropp n t
theorem Paired.takep {α β : Type} {F : α → β → Prop} : ∀ {l₁ : List α} {l₂ : List β} (n : Nat), Paired F l₁ l₂ → Paired F (l₁.take n) (l₂.take n)
  | _, _, 0, h => by simp only [List.take_zero]; exact .nil
  | _, _, n + 1, .nil => .nil
  | _, _, n + 1, .cons h t => by
    simp only [List.take_succ_cons]
    exact .cons h (Paired.takep n t)
theorem Runs.same {H H' : Hp} {a : Addr} {rs : List Run} (s : Same H H') (h : Runs H a rs) : Runs H' a rs := by
  obtain ⟨xs, e, p⟩ := h
  exact ⟨xs, s _ _ e, Paired.imp (fun _ _ => RunV.same s) p⟩
theorem StV.same {H H' : Hp} {v : V} {st : Option Run} (s : Same H H') (h : StV H v st) : StV H' v st := by
  cases st with
  | none => exact h
  | some r => exact RunV.same s h
/-- the spring: a list of three ints -/
def Spr (H : Hp) (sp : Addr) : Prop := ∃ d s c : Int, H sp = some (.lst [.int d, .int s, .int c]) ∧ 0 ≤ d ∧ d.natAbs < 2 ^ 20000 ∧ 0 ≤ s ∧ s < 2305843009213693951
theorem RunV.but {H H' : Hp} {sp : Addr} {v : V} {r : Run} (z : Spr H sp) (s : But sp H H') (h : RunV H v r) : RunV H' v r := by
  obtain ⟨t, e, h⟩ := h
  obtain ⟨_, _, _, hs, _⟩ := z
  exact ⟨t, e, s _ _ (ne_of h hs (by intro q; cases q)) h⟩
theorem Runs.ne {H : Hp} {sp a : Addr} {rs : List Run} (z : Spr H sp) (h : Runs H a rs) : a ≠ sp := by
  obtain ⟨xs, e, p⟩ := h
  obtain ⟨d, s, c, hs, _⟩ := z
  refine ne_of e hs fun q => ?_
  have q := HO.lst.inj q
  subst q
  cases p with
  | cons h _ =>
    obtain ⟨t, e, _⟩ := h
    cases e
theorem Runs.but {H H' : Hp} {sp a : Addr} {rs : List Run} (z : Spr H sp) (s : But sp H H') (h : Runs H a rs) : Runs H' a rs := by
  have n := Runs.ne z h
  obtain ⟨xs, e, p⟩ := h
  exact ⟨xs, s _ _ n e, Paired.imp (fun _ _ => RunV.but z s) p⟩
theorem StV.but {H H' : Hp} {sp : Addr} {v : V} {st : Option Run} (z : Spr H sp) (s : But sp H H') (h : StV H v st) : StV H' v st := by
  cases st with
  | none => exact h
  | some r => exact RunV.but z s h
theorem Spr.same {H H' : Hp} {sp : Addr} (z : Spr H sp) (s : Same H H') : Spr H' sp := by
  obtain ⟨d, e, c, hs, r⟩ := z
  exact ⟨d, e, c, s _ _ hs, r⟩
def KindOk (s : Str) : Prop := 1 ≤ s.length ∧ s.length ≤ 8 ∧ ∀ c ∈ s.cps.toList, 97 ≤ c ∧ c ≤ 122
def RunOk (r : Run) : Prop := KindOk r.1 ∧ 1 ≤ r.2 ∧ r.2 ≤ 1000000000000000000000000000000
def Alt (rs : List Run) : Prop := ∀ (i : Nat) (x y : Run), rs[i]? = some x → rs[i + 1]? = some y → x.1 ≠ y.1
def SeqOk (rs : List Run) : Prop := rs.length ≤ 400 ∧ (∀ r ∈ rs, RunOk r) ∧ Alt rs
end UP

set_option Elab.async false
set_option linter.all false
set_option maxRecDepth 100000
set_option maxHeartbeats 4000000
namespace UP
open PySem PySem.Spec PyProof.Rows L2
/-! ### repr of plain data, where no other repr is under way -/
def rRepr (K : PySem.W.Frag) : List V → Hp → VK → Prop := fun xs H Q => ∃ (a : Addr) (d : PyData), xs = [.ref a] ∧ Dp K H (.ref a) d ∧ d.showable = true ∧ SeqAt.shaped d = true ∧ d.shown.length ≤ sizeLine ∧ Q (.str d.shown) H
theorem call_reprD {X : Cx} (hg : X.A.guards = some []) (hu : X.A.units + 70 < cLine) : CallR X (.builtin "repr") (rRepr X.K) := by
  intro pins s σ H xs us Q I r h
  obtain ⟨a, d, rfl, dp, sh, sp, sz, q⟩ := h
  obtain ⟨u, rfl, ru⟩ := vals1 r
  cases (show u = Value.ref a from ru)
  obtain ⟨as, rd⟩ := Dp.reads I d (.ref a) (.ref a) dp rfl
  have dd := SeqAt.depth_of_shaped sp
  refine repr_of_reads' rd sh (PyData.noDict_hsm (PyData.hasDict_of_canLay d (SeqAt.canLay_of_shaped sp))) hg (by omega) (fun _ _ e => e) (fun h' u tk hk => ?_) sz
  exact ⟨.str d.shown, H, I.kept (t' := tk) hk, ⟨u, rfl⟩, q⟩
/-! ### the law's own call, around it nothing -/
structure FnC (P : Program) (w : World) (K : PySem.W.Frag) (mg : Str → Option Value) (base : Heap) (f : Addr) (fd : FuncData) (ps : List Str) (sp : Sp) : Prop where
  go : ∀ (out : List Env) (s : Shared) (H : Hp) (args : Args) (us : List Value) (vs : List V) (Q : VK) (E : XK), Env0 P w K mg base callerA out s H → BindsTo s fd args (ps.zip us) → Vals vs us → sp vs H Q E →
    codeAny (model P w) callerA (.call (.ref f) args) (CR CX0 out P w H s Q E) s
theorem callerA_room : Room 8 callerA := ⟨rfl, by decide, by decide⟩
section
variable {P : Program} {w : World} {K : PySem.W.Frag} {mg : Str → Option Value} {base : Heap}
theorem fnC_of {x : Str} {st : Stmt} {f : Addr} {fd : FuncData} {ps N : List Str} {sp : Sp} (F : Fun K x x st f fd) (S : FnScope N ps (defScope st)) (len : ∀ vs H Q E, sp vs H Q E → vs.length = ps.length)
    (body : ∀ (cdv : Value) (out : List Env) (s : Shared) (H : Hp) (vs : List V) (Q : VK) (E : XK), Room 7 (callerA.deeper (envOfC x (defScope st) s.heap.objs.size f cdv)) → sp vs H Q E →
      ∃ t, PSs (cxOf CX0 P w K mg base N x (defScope st) f cdv callerA out s H E).nox (defBody st) t ∧ t { nx := fun _ H' => Q .non H', rt := Q } (start N vs) H) : FnC P w K mg base f fd ps sp := by
  obtain ⟨oc, od, kV, doc, pm, an, cdv, ct, osl, rfl, lk, hcd⟩ := F.ex
  refine ⟨fun out s H args us vs Q E e0 hb rv hsp => ?_⟩
  have inS : K.In s.heap := e0.mod.kin.keeps fun b o z => (e0.bs b o z).1
  have noL : s.heap.NoLimit := e0.mod.nolimit.keeps fun b o z => (e0.bs b o z).1
  have kinds : ∀ y ∈ ps.zip us, (defScope st).names.lookup y.1 = some .local ∨ ((defScope st).names.lookup y.1 = some .cell ∧ ((cellsFrom (s.heap.objs.size + 1) (defScope st).names []).lookup y.1).isSome = true) := by
    intro y hy
    rcases S.par y.1 (List.of_mem_zip (a := y.1) (b := y.2) hy).1 with z | z
    · exact Or.inl z
    · exact Or.inr ⟨z, PySem.W.cellsFrom_some _ _ _ (Or.inl z)⟩
  refine codeAny_call_function callerA_room.depth (inS _ _ lk) rfl S.co S.gen rfl (PySem.W.codeRec_of inS hcd) (hb _ _ _ _ ?_)
  refine wpAny_newFunctionEnv_cells S.kind kinds fun env he s1 inC => ?_
  subst he
  refine ⟨noL.keeps inC.toInCall.keep, codeAny_func ?_⟩
  obtain ⟨t, ht0, hq⟩ := body cdv out s H vs Q E (callerA_room.deeper _) hsp
  have ht := PSs.nox ht0
  have I0 : Inv (cxOf CX0 P w K mg base N x (defScope st) f cdv callerA out s H E) [] (start N vs) H s1 := inv_start S rfl e0 (len _ _ _ _ hsp) rv inC
  refine wpAny_mono (ht.run [] s1 (start N vs) H _ I0 hq) (fun fl s2 h2 => ?_) fun _ _ z => z
  cases fl with
  | next =>
    obtain ⟨σ2, H2, J, q2⟩ := h2
    exact ⟨V.non, H2, J.os, J.bare, J.base, J.hok, rfl, q2⟩
  | ret u =>
    obtain ⟨v, σ2, H2, J, rv2, q2⟩ := h2
    exact ⟨v, H2, J.os, J.bare, J.base, J.hok, rv2, q2⟩
  | brk =>
    obtain ⟨_, _, _, z⟩ := h2
    exact z.elim
  | cont =>
    obtain ⟨_, _, _, z⟩ := h2
    exact z.elim
end
/-- the heap that holds the script alone, locked -/
def oneH (a : Addr) (o : Obj) (xs : List V) : Hp := fun b => if b = a then some (.frz o (.lst xs)) else none
theorem run_law {P : Program} {w : World} {K : PySem.W.Frag} {mg mb : Str → Option Value} {fa a : Addr} {fd : FuncData} {x : Str} {sp : Sp} {s : Shared} {vs : List Value} {ns : List Int}
    (kx : K.In s.heap) (gns : s.heap.Ns mainGlobals mg) (bns : s.heap.Ns builtinsNs mb) (bb : ∀ y : Str, y ≠ "__name__" → mb y = bootBuiltins y) (nl : s.heap.NoLimit) (gens : s.gens = #[])
    (ob : s.heap.get? a = some { cls := .type "list", data := .seq vs.toArray }) (hin : IntsAre vs ns) (len : ns.length ≤ sizeLine) (F : ∀ base : Heap, K.In base → base.Ns mainGlobals mg → FnC P w K mg base fa fd [x] sp)
    (bind : ∀ (s : Shared) (u : Value), BindsTo s fd ⟨[u], []⟩ [(x, u)]) (hsp : ∀ H : Hp, SqL K H a (ns.map V.int) → sp [.ref a] H (fun v _ => v = .bl true) fun _ _ _ => False) :
    codeAny (model P w) callerA (.call (.ref fa) ⟨[.ref a], []⟩) (fun r s' => r = .ok (.ret (.bool true)) ∧ OldK s.heap s'.heap ∧ s'.os = s.os ∧ AllBare s'.gens) s := by
  have rel := vals_ints hin
  have step : ∀ H : Hp, (H = (fun _ => none) ∨ (H = oneH a { cls := .type "list", data := .seq vs.toArray } (ns.map V.int) ∧ K.lookup a = none)) → SqL K H a (ns.map V.int) → HOk P w H s.heap →
      codeAny (model P w) callerA (.call (.ref fa) ⟨[.ref a], []⟩) (fun r s' => r = .ok (.ret (.bool true)) ∧ OldK s.heap s'.heap ∧ s'.os = s.os ∧ AllBare s'.gens) s := by
    intro H hH hS hok
    have only : ∀ b u, H b = some u → b = a ∧ u = .frz { cls := .type "list", data := .seq vs.toArray } (.lst (ns.map V.int)) ∧ K.lookup a = none := by
      intro b u e
      rcases hH with z | ⟨z, z2⟩
      · rw [z] at e
        cases e
      · rw [z] at e
        by_cases hb : b = a
        · have e := (if_pos hb).symm.trans e
          cases e
          exact ⟨hb, rfl, z2⟩
        · have e := (if_neg hb).symm.trans e
          cases e
    have free : ∀ {b : Addr} {o : Obj}, s.heap.get? b = some o → (b = a → False) → (hidT s.heap H).get? b = some o := by
      intro b o e n
      refine hidT_get e ?_
      cases q : H b with
      | none => rfl
      | some u => exact (n (only b u q).1).elim
    have nss : ∀ {b : Addr} {m : Str → Option Value}, s.heap.Ns b m → (hidT s.heap H).Ns b m := by
      intro b m ⟨o, es, ep, e, d, r⟩
      refine ⟨o, es, ep, free e fun z => ?_, d, r⟩
      subst z
      rw [ob] at e
      cases e
      cases d
    have kb : K.In (hidT s.heap H) := by
      intro b o e
      refine hidT_get (kx b o e) ?_
      cases q : H b with
      | none => rfl
      | some u =>
        obtain ⟨z1, _, z2⟩ := only b u q
        rw [z1, z2] at e
        cases e
    have md : Mod K mg (hidT s.heap H) := ⟨kb, nss gns, ⟨mb, nss bns, bb⟩, by obtain ⟨mc, h1, h2⟩ := nl; exact ⟨mc, nss h1, h2⟩⟩
    have env : Env0 P w K mg (hidT s.heap H) callerA [] s H := ⟨rfl, md, fun b o e => of_hidT e, Nat.le_of_eq (hidT_size _ _), trivial, (fun b hb => by cases hb), hok, .of_eq gens⟩
    refine codeAny_mono ((F _ kb (nss gns)).go [] s H ⟨[.ref a], []⟩ [.ref a] [.ref a] _ _ env (bind s (.ref a)) (.cons rfl .nil) (hsp H hS)) fun r s' h => ?_
    cases r with
    | error e => exact h.elim
    | ok fl =>
      cases fl with
      | next => exact h.elim
      | brk => exact h.elim
      | cont => exact h.elim
      | ret u =>
        obtain ⟨v, H', o1, o2, un, hok', rv, q⟩ := h
        have q : v = .bl true := q
        subst q
        cases (show u = Value.bool true from rv)
        refine ⟨rfl, OldK.of_keep fun b o e => ?_, o1, o2⟩
        cases q : H b with
        | none => exact un.keep b o e q (fun z => by cases z) (fun z => by cases z)
        | some u =>
          obtain ⟨_, z, _⟩ := only b u q
          subst z
          obtain ⟨e1, _⟩ := hok b _ q
          obtain ⟨e2, _⟩ := hok' b _ (un.frzs b _ _ q)
          rw [e] at e1
          cases e1
          exact e2
  cases hk : K.lookup a with
  | some o =>
    have e := kx a o hk
    rw [ob] at e
    cases e
    refine step (fun _ => none) (.inl rfl) (.inr ⟨_, vs.toArray, _, hk, rfl, rfl, rfl, ?_, by simpa using rel⟩) fun b u z => by cases z
    rw [List.size_toArray, hin.length]
    exact len
  | none =>
    have at_a : oneH a { cls := .type "list", data := .seq vs.toArray } (ns.map V.int) a = some (.frz { cls := .type "list", data := .seq vs.toArray } (.lst (ns.map V.int))) := if_pos rfl
    refine step _ (.inr ⟨rfl, hk⟩) (.inl (.inr ⟨_, at_a⟩)) fun b u z => ?_
    by_cases hb : b = a
    · subst hb
      rw [at_a] at z
      cases z
      exact ⟨ob, by rw [List.length_map]; exact len, vs, _, rel, ob⟩
    · have z := (if_neg hb).symm.trans z
      cases z
theorem walkC {l : PySem.W.OpenLaw} {n : Nat} {q : Program} {loose : List Str} {XP : (Str → Option Value) → Heap → Prop} {YP : World → Heap → Prop} {d : DefRec} {K : Params → PySem.W.Frag} {sp : World → Sp} {x : Str}
    (hn : l.most = some n) (n2 : n ≤ sizeLine) (df : d.params.defaults = []) (hY : ∀ (w : World) (h : Heap), YP w h → (K w.params).In h)
    (F : ∀ (w : World) (mg : Str → Option Value) (fa : Addr) (h : Heap), (K w.params).In h → h.Ns mainGlobals mg → mg d.name = some (.ref fa) →
      ∃ fd : FuncData, (∀ (s : Shared) (u : Value), BindsTo s fd ⟨[u], []⟩ [(x, u)]) ∧ ∀ base : Heap, (K w.params).In base → base.Ns mainGlobals mg → FnC l.prog w (K w.params) mg base fa fd [x] (sp w))
    (hsp : ∀ (w : World) (H : Hp) (a : Addr) (ns : List Int), ns.length ≤ n → SqL (K w.params) H a (ns.map V.int) → sp w [.ref a] H (fun v _ => v = .bl true) fun _ _ _ => False) :
    PySem.W.WalkO q loose XP YP l.row.toRowW d [] (fun f vs => PySem.call f vs) := by
  refine Att.attach_call hn df fun w s₀ s mg mb fa o pm cd doc a vs ns G Y ho hd hcd hmg hobj hints hlen hg => ?_
  have kx := hY w _ Y
  obtain ⟨fd, hb, hF⟩ := F w mg fa _ kx G.T.g hmg
  exact run_law kx G.T.g G.T.b G.T.builtins G.T.nolimit hg hobj hints (Nat.le_trans hlen n2) hF hb fun H hS => hsp w H a ns hlen hS
end UP

set_option Elab.async false
set_option linter.all false
set_option maxRecDepth 100000
set_option maxHeartbeats 4000000
namespace UP
open PySem PySem.Spec PyProof.Rows L2
/-! ### lists or tuples -/
def Sq2 (H : Hp) (a : Addr) (xs : List V) : Prop := H a = some (.lst xs) ∨ H a = some (.tup xs)
theorem Sq2.same {H H' : Hp} {a : Addr} {xs : List V} (s : Same H H') (h : Sq2 H a xs) : Sq2 H' a xs := h.elim (fun z => .inl (s _ _ z)) (fun z => .inr (s _ _ z))
/-- a walk over the items xs, from the heap H on -/
structure Wk (J : It) (H : Hp) (xs : List V) : Prop where
  go : ∀ i H', Same H H' → i < xs.length → J.go i H'
  stop : ∀ H', Same H H' → J.stop xs.length H'
  yld : ∀ i x H' H'', Same H H' → J.yld i H' x H'' → H'' = H' ∧ xs[i]? = some x
theorem wk_list {K : PySem.W.Frag} {H : Hp} {a : Addr} {xs : List V} (h : H a = some (.lst xs)) : Wk (Itl K a) H xs :=
  ⟨fun i H' s hi => ⟨xs, xs[i], .of (s _ _ h), List.getElem?_eq_getElem hi⟩, fun H' s => ⟨xs, .of (s _ _ h), Nat.le_refl _⟩, fun i x H' H'' s y => ⟨y.1, y.2 xs (.of (s _ _ h))⟩⟩
theorem wk_tup {K : PySem.W.Frag} {H : Hp} {a : Addr} {xs : List V} (h : H a = some (.tup xs)) : Wk (Itt K a) H xs :=
  ⟨fun i H' s hi => ⟨xs, xs[i], .of (s _ _ h), List.getElem?_eq_getElem hi⟩, fun H' s => ⟨xs, .of (s _ _ h), Nat.le_refl _⟩, fun i x H' H'' s y => ⟨y.1, y.2 xs (.of (s _ _ h))⟩⟩
def iSeqV (i : Nat) : TI := fun σ H R => ∃ a xs, σ[i]? = some (some (.ref a)) ∧ Sq2 H a xs ∧ ∀ J, Wk J H xs → R J H
section
variable {X : Cx}
theorem pi_seqV (i : Nat) {x : Str} {pos : Pos} {tg : Expr} (hN : X.N[i]? = some x := by rfl) (hv : Vis X.env.scope x := by first | exact Or.inl rfl | exact Or.inr (Or.inl rfl) | exact Or.inr (Or.inr rfl)) (hd : (x == ("__debug__" : Str)) = false := by decide)
    (hc : (x == ("__classdict__" : Str)) = false := by decide) : PI X tg (.Name x pos) (iSeqV i) := by
  refine ⟨fun pins s σ H R I hw => ?_⟩
  obtain ⟨a, xs, e, h, k⟩ := hw
  rcases h with h | h
  · exact (pi_list (pe_var hN hv hd hc)).run pins s σ H R I ⟨_, e, a, rfl, ⟨xs, .of h⟩, k _ (wk_list h)⟩
  · exact (pi_tup (pe_var hN hv hd hc)).run pins s σ H R I ⟨_, e, a, rfl, ⟨xs, .of h⟩, k _ (wk_tup h)⟩
def gAny (n : Nat) (t : TGs) : TG := fun v σ H Q => ∃ a xs, v = .ref a ∧ Sq2 H a xs ∧ xs.length = n ∧ t xs σ H Q
theorem pg_any {es : List Expr} {k n : Nat} {t : TGs} {pos : Pos} (hc : X.calm = true) (h : PGs X es t) (hn : (assignEach es X.env).length = n := by rfl) (hst : (assignEach es X.env).findIdx? (fun z => z.1) = none := by rfl) : PG X (.Tuple es k pos) (gAny n t) := by
  refine ⟨fun pins s σ H v u Q I r hw => ?_⟩
  obtain ⟨a, xs, e, hx, hl, hw⟩ := hw
  rcases hx with z | z
  · exact (pg_unl hc h hn hst).run pins s σ H v u Q I r ⟨a, xs, e, .of z, hl, hw⟩
  · exact (pg_tup hc h hn hst).run pins s σ H v u Q I r ⟨a, xs, e, .of z, hl, hw⟩
/-- zip(x, x[1:]) -/
structure WkZ (J : It) (H : Hp) (xs : List V) : Prop where
  go : ∀ i H', Same H H' → i + 1 < xs.length → J.go i H'
  stop : ∀ H', Same H H' → J.stop (xs.length - 1) H'
  yld : ∀ i x H' H'', Same H H' → J.yld i H' x H'' → ∃ T x1 x2, x = .ref T ∧ H' T = none ∧ H'' = upd H' T (.tup [x1, x2]) ∧ xs[i]? = some x1 ∧ (i + 1 < xs.length → xs[i + 1]? = some x2)
def iZip1 (i : Nat) : TI := fun σ H R => ∃ a xs, σ[i]? = some (some (.ref a)) ∧ Sq2 H a xs ∧ ∀ J H', Same H H' → WkZ J H' xs → R J H'
theorem cutt_one (xs : List V) : cutV xs (some 1) none = xs.drop 1 := by
  have e : HT.sIx xs.length 0 (some 1) = min 1 xs.length := HT.sIx_nat xs.length 0 1
  unfold cutV
  rw [e, HT.sIx_none]
  cases xs with
  | nil => rfl
  | cons x r =>
    have e1 : min 1 (x :: r).length = 1 := by simp only [List.length_cons]; omega
    rw [e1]
    simp
theorem pi_zip1 {i : Nat} {tg it : Expr} {tl th : TO} (h : PI X tg it (RZ.iZipA X.K (tCons (tVar i) (tCons (tSl (fun x lo hi H Q => rSlL X.K x lo hi H Q ∨ rSlA X.K x lo hi H Q) (tVar i) tl th) tNil))))
    (h1 : ∀ (σ : L2.St) (H : Hp) (Q : Option Int → Hp → Prop), Q (some 1) H → tl σ H Q) (h2 : ∀ (σ : L2.St) (H : Hp) (Q : Option Int → Hp → Prop), Q none H → th σ H Q) : PI X tg it (iZip1 i) := by
  refine ⟨fun pins s σ H R I hw => h.run pins s σ H R I ?_⟩
  obtain ⟨a, xs, e, hx, k⟩ := hw
  refine ⟨_, e, _, e, h1 σ H _ (h2 σ H _ ?_)⟩
  have gn : ∀ j : Nat, (xs.drop 1)[j]? = xs[j + 1]? := fun j => by rw [List.getElem?_drop, Nat.add_comm 1 j]
  rcases hx with hx | hx
  · refine .inl ⟨a, xs, rfl, .of hx, fun c nc => ?_⟩
    have sc : Same H (upd H c (.lst (cutV xs (some 1) none))) := fun b o z => by rw [upd_ne (ne_of_none z nc)]; exact z
    have hc : (upd H c (.lst (cutV xs (some 1) none))) c = some (.lst (xs.drop 1)) := by rw [upd_same, cutt_one]
    refine ⟨a, c, xs, xs.drop 1, rfl, .inl ⟨.of (sc _ _ hx), .of hc, k _ _ sc ⟨fun j H' sj hj => ?_, fun H' sj => ?_, fun j x H' H'' sj y => ?_⟩⟩⟩
    · exact ⟨xs, xs.drop 1, xs[j], xs[j + 1], .of (sj _ _ (sc _ _ hx)), .of (sj _ _ hc), List.getElem?_eq_getElem (by omega), by rw [gn]; exact List.getElem?_eq_getElem hj⟩
    · exact ⟨xs, xs.drop 1, .of (sj _ _ (sc _ _ hx)), .of (sj _ _ hc), .inr (by rw [List.length_drop]; exact Nat.le_refl _)⟩
    · obtain ⟨T, x1, x2, e1, e2, e3, f1, f2⟩ := y
      exact ⟨T, x1, x2, e1, e2, e3, f1 xs (.of (sj _ _ (sc _ _ hx))), fun _ => by rw [← gn]; exact f2 _ (.of (sj _ _ hc))⟩
  · refine .inr ⟨a, xs, rfl, .of hx, fun z => ?_, fun z c nc => ?_⟩
    · have lz : xs.length = 0 := by
        have z1 := z.1
        rw [show HT.sIx xs.length 0 (some 1) = min 1 xs.length from HT.sIx_nat xs.length 0 1] at z1
        omega
      refine ⟨a, a, xs, xs, rfl, .inr ⟨.of hx, .of hx, k _ _ (Same.refl _) ⟨fun j H' sj hj => by omega, fun H' sj => ⟨xs, xs, .of (sj _ _ hx), .of (sj _ _ hx), .inl (by omega)⟩, fun j x H' H'' sj y => ?_⟩⟩⟩
      obtain ⟨T, x1, x2, e1, e2, e3, f1, f2⟩ := y
      exact ⟨T, x1, x2, e1, e2, e3, f1 xs (.of (sj _ _ hx)), fun hj => by omega⟩
    · have sc : Same H (upd H c (.tup (cutV xs (some 1) none))) := fun b o z => by rw [upd_ne (ne_of_none z nc)]; exact z
      have hc : (upd H c (.tup (cutV xs (some 1) none))) c = some (.tup (xs.drop 1)) := by rw [upd_same, cutt_one]
      refine ⟨a, c, xs, xs.drop 1, rfl, .inr ⟨.of (sc _ _ hx), .of hc, k _ _ sc ⟨fun j H' sj hj => ?_, fun H' sj => ?_, fun j x H' H'' sj y => ?_⟩⟩⟩
      · exact ⟨xs, xs.drop 1, xs[j], xs[j + 1], .of (sj _ _ (sc _ _ hx)), .of (sj _ _ hc), List.getElem?_eq_getElem (by omega), by rw [gn]; exact List.getElem?_eq_getElem hj⟩
      · exact ⟨xs, xs.drop 1, .of (sj _ _ (sc _ _ hx)), .of (sj _ _ hc), .inr (by rw [List.length_drop]; exact Nat.le_refl _)⟩
      · obtain ⟨T, x1, x2, e1, e2, e3, f1, f2⟩ := y
        exact ⟨T, x1, x2, e1, e2, e3, f1 xs (.of (sj _ _ (sc _ _ hx))), fun _ => by rw [← gn]; exact f2 _ (.of (sj _ _ hc))⟩
end
/-! ### runs and states, dressed -/
def RunG (H : Hp) (v : V) (r : Run) : Prop := ∃ t, v = .ref t ∧ Sq2 H t [.str r.1, .int r.2]
def RunsG (H : Hp) (v : V) (rs : List Run) : Prop := ∃ a xs, v = .ref a ∧ Sq2 H a xs ∧ Paired (RunG H) xs rs
def StG (H : Hp) (v : V) : Option Run → Prop
  | none => v = .non
  | some r => RunG H v r
theorem RunG.same {H H' : Hp} {v : V} {r : Run} (s : Same H H') (h : RunG H v r) : RunG H' v r := by
  obtain ⟨t, e, h⟩ := h
  exact ⟨t, e, h.same s⟩
theorem RunsG.same {H H' : Hp} {v : V} {rs : List Run} (s : Same H H') (h : RunsG H v rs) : RunsG H' v rs := by
  obtain ⟨a, xs, e, hx, p⟩ := h
  exact ⟨a, xs, e, hx.same s, Paired.imp (fun _ _ => RunG.same s) p⟩
theorem StG.same {H H' : Hp} {v : V} {st : Option Run} (s : Same H H') (h : StG H v st) : StG H' v st := by
  cases st with
  | none => exact h
  | some r => exact RunG.same s h
theorem RunV.dress {H : Hp} {v : V} {r : Run} (h : RunV H v r) : RunG H v r := by
  obtain ⟨t, e, h⟩ := h
  exact ⟨t, e, .inr h⟩
theorem Runs.dress {H : Hp} {a : Addr} {rs : List Run} (h : Runs H a rs) : RunsG H (.ref a) rs := by
  obtain ⟨xs, hx, p⟩ := h
  exact ⟨a, xs, rfl, .inl hx, Paired.imp (fun _ _ => RunV.dress) p⟩
theorem StV.dress {H : Hp} {v : V} {st : Option Run} (h : StV H v st) : StG H v st := by
  cases st with
  | none => exact h
  | some r => exact RunV.dress h
theorem Sq2.but {H H' : Hp} {sp a : Addr} {xs : List V} (z : Spr H sp) (s : But sp H H') (h : Sq2 H a xs) (n : ∀ d e f, xs ≠ [.int d, .int e, .int f]) : Sq2 H' a xs := by
  obtain ⟨d, e, f, hs, _⟩ := z
  rcases h with h | h
  · exact .inl (s _ _ (ne_of h hs fun q => n d e f (HO.lst.inj q)) h)
  · exact .inr (s _ _ (ne_of h hs fun q => by cases q) h)
theorem RunG.but {H H' : Hp} {sp : Addr} {v : V} {r : Run} (z : Spr H sp) (s : But sp H H') (h : RunG H v r) : RunG H' v r := by
  obtain ⟨t, e, h⟩ := h
  exact ⟨t, e, h.but z s fun _ _ _ q => by cases q⟩
theorem RunsG.but {H H' : Hp} {sp : Addr} {v : V} {rs : List Run} (z : Spr H sp) (s : But sp H H') (h : RunsG H v rs) : RunsG H' v rs := by
  obtain ⟨a, xs, e, hx, p⟩ := h
  refine ⟨a, xs, e, hx.but z s fun d _ _ q => ?_, Paired.imp (fun _ _ => RunG.but z s) p⟩
  subst q
  cases p with
  | cons h _ =>
    obtain ⟨_, e, _⟩ := h
    cases e
theorem StG.but {H H' : Hp} {sp : Addr} {v : V} {st : Option Run} (z : Spr H sp) (s : But sp H H') (h : StG H v st) : StG H' v st := by
  cases st with
  | none => exact h
  | some r => exact RunG.but z s h
end UP

set_option Elab.async false
set_option linter.all false
set_option maxRecDepth 100000
set_option maxHeartbeats 4000000
/-! ### sorted(d.items()), d a dict of texts with ints -/
namespace UPS
open PySem PyProof.Rows SrtO Srt
def lexS (p q : Str × Int) : Bool := if p.1 = q.1 then decide (p.2 < q.2) else decide (p.1.cps.toList < q.1.cps.toList)
theorem lexS_no {p q : Str × Int} : lexS p q = false ↔ (p.1 = q.1 → ¬ p.2 < q.2) ∧ (p.1 ≠ q.1 → ¬ p.1.cps.toList < q.1.cps.toList) := by
  unfold lexS
  by_cases e : p.1 = q.1
  · rw [if_pos e, decide_eq_false_iff_not]
    exact ⟨fun h => ⟨fun _ => h, fun n => absurd e n⟩, fun h => h.1 e⟩
  · rw [if_neg e, decide_eq_false_iff_not]
    exact ⟨fun h => ⟨fun z => absurd z e, fun _ => h⟩, fun h => h.2 e⟩
theorem str_of {x y : Str} (h : x.cps.toList = y.cps.toList) : x = y := by
  cases x with
  | mk a =>
    cases y with
    | mk b =>
      congr 1
      exact Array.ext' h
theorem swoS : Swo lexS := by
  refine ⟨fun x y h => ?_, fun x y z h1 h2 => ?_⟩
  · refine lexS_no.mpr ⟨fun e => ?_, fun n => ?_⟩
    · unfold lexS at h
      rw [if_pos e.symm] at h
      have := of_decide_eq_true h
      omega
    · unfold lexS at h
      rw [if_neg fun z => n z.symm] at h
      exact List.lt_asymm (of_decide_eq_true h)
  · have a := lexS_no.mp h1
    have b := lexS_no.mp h2
    refine lexS_no.mpr ⟨fun e => ?_, fun n => ?_⟩
    · by_cases c : y.1 = x.1
      · have := a.1 c
        have := b.1 (e.trans c.symm)
        omega
      · exfalso
        have p := a.2 c
        have q := b.2 fun w => c (w.symm.trans e)
        rw [e] at q
        exact c (str_of (List.le_antisymm q p))
    · by_cases c : y.1 = x.1
      · rw [← c]
        exact b.2 fun w => n (w.trans c)
      · by_cases d : z.1 = y.1
        · rw [d]
          exact a.2 c
        · exact List.le_trans (a.2 c) (b.2 d)
/-- a tuple of a text and an int -/
def IsSI (h : Heap) (v : Value) (x : Str) (y : Int) : Prop := ∃ a o t u n, v = .ref a ∧ h.get? a = some o ∧ o.cls = .type "tuple" ∧ o.data = .seq #[.str x t, .int y u] n
theorem IsSI.keeps {h h' : Heap} {v : Value} {x : Str} {y : Int} (p : IsSI h v x y) (k : ∀ b o, h.get? b = some o → o.cls = .type "tuple" → h'.get? b = some o) : IsSI h' v x y := by
  obtain ⟨a, o, t, u, n, e, ho, hc, hd⟩ := p
  exact ⟨a, o, t, u, n, e, k _ _ ho hc, hc, hd⟩
theorem firsts_si {h : Heap} : ∀ {vs : List Value}, (∀ v ∈ vs, ∃ x y, IsSI h v x y) → ∃ fs : List Value, PySem.W.KatTups h vs fs ∧ fs.length = vs.length ∧ ∀ f ∈ fs, ∃ x t, f = Value.str x t
  | [], _ => ⟨[], PySem.W.KatTups.nil, rfl, fun f hf => by simp at hf⟩
  | v :: vs, x => by
    obtain ⟨fs, k, hl, hi⟩ := firsts_si (vs := vs) fun u hu => x u (List.mem_cons_of_mem _ hu)
    obtain ⟨y, z, a, o, t, u, n, rfl, ho, hc, hd⟩ := x v (List.mem_cons_self ..)
    refine ⟨.str y t :: fs, PySem.W.KatTups.cons ho hc hd rfl k, congrArg Nat.succ hl, fun f hf => ?_⟩
    rcases List.mem_cons.mp hf with e | e
    · exact ⟨y, t, e⟩
    · exact hi f e
section
variable {prog : Program} {w : World} {A : Around} {s : Shared} {E : Value → Shared → Prop}
theorem si_cmp {vs : List Value} {k : Value → Str × Int} (hp : ∀ v ∈ vs, IsSI s.heap v (k v).1 (k v).2) : Cmp prog w A s (tuples' true) (fun p => p.1 ∈ vs) (lt2 fun v u => lexS (k v) (k u)) := by
  intro p q hm hm'
  have h1 := hp _ hm
  have h2 := hp _ hm'
  show wpAny (model prog w) A (keyLt' (tuples' true) p.1 q.1) (fun r s' => s' = s ∧ r = lexS (k p.1) (k q.1)) (fun _ _ => False) s
  unfold lexS
  generalize (k p.1).1 = x at h1 ⊢
  generalize (k p.1).2 = y at h1 ⊢
  generalize (k q.1).1 = x' at h2 ⊢
  generalize (k q.1).2 = y' at h2 ⊢
  obtain ⟨a, o, t, u, n, e, ho, hc, hd⟩ := h1
  obtain ⟨a', o', t', u', n', e', ho', hc', hd'⟩ := h2
  rw [e, e']
  refine PySem.W.kat_lt ho hd ho' hd' ?_
  show PySem.W.KatLex prog w A true (decide (2 < 2)) _ [(.str x t, .str x' t'), (.int y u, .int y' u')] 0 s
  refine PySem.W.kat_cons (SeqAt.EqAt.str_str x t x' t' prog w _ _ ?_)
  refine PySem.W.kat_go (fun e1 => ?_) (fun e1 => ?_)
  · have ex : x = x' := by simpa using e1
    refine PySem.W.kat_yes (PySem.W.kat_cons (SeqAt.EqAt.int_int y u y' u' prog w _ _ ?_))
    refine PySem.W.kat_go (fun e2 => ?_) (fun e2 => ?_)
    · have ey : y = y' := by simpa using e2
      have e3 : (if x = x' then decide (y < y') else decide (x.cps.toList < x'.cps.toList)) = false := by
        rw [if_pos ex, ey]
        exact decide_eq_false (Int.lt_irrefl _)
      exact PySem.W.kat_yes (PySem.W.kat_nil ⟨rfl, e3.symm⟩)
    · have e3 : (if x = x' then decide (y < y') else decide (x.cps.toList < x'.cps.toList)) = decide (y < y') := if_pos ex
      refine PySem.W.kat_no (PySem.W.kat_one _ _ (PyProof.Rows.lt_int ?_))
      exact (show s = s ∧ decide (y < y') = (if x = x' then decide (y < y') else decide (x.cps.toList < x'.cps.toList)) from ⟨rfl, e3.symm⟩)
  · have ex : ¬ x = x' := by simpa using e1
    have e3 : (if x = x' then decide (y < y') else decide (x.cps.toList < x'.cps.toList)) = decide (x.cps.toList < x'.cps.toList) := if_neg ex
    exact PySem.W.kat_no (PyProof.Rows.oneLt_str ⟨rfl, e3.symm⟩)
theorem si_sortable {a : Addr} {vs : List Value} {k : Value → Str × Int} (h0 : 0 < vs.length) (hp : ∀ v ∈ vs, IsSI s.heap v (k v).1 (k v).2) (ha : ∀ o, s.heap.get? a = some o → o.cls ≠ .type "tuple") : SortableO prog w A s a vs fun v u => lexS (k v) (k u) := by
  intro h' keep
  have hp' : ∀ v ∈ vs, IsSI h' v (k v).1 (k v).2 := fun v hm => (hp v hm).keeps fun b o e c => keep b o (fun z => by subst z; exact ha o e c) e
  obtain ⟨fs, h1, h2, h3⟩ := firsts_si fun v hm => ⟨_, _, hp' v hm⟩
  refine ⟨tuples' true, fun Q E hq => ?_, si_cmp hp'⟩
  refine PySem.W.kat_kind (T := .type "str") h1 (by omega) (fun f hm => ?_) (by rfl) ?_
  · obtain ⟨x, t, rfl⟩ := h3 f hm
    exact PySem.W.Looks.now
  · have e : (Value.type "str" != Value.type "tuple") = true := by first | decide +kernel | rfl | decide
    rw [e]
    exact hq
end
end UPS
namespace UP
open PySem PySem.Spec PyProof.Rows L2 L2.DX
abbrev entK (e : Str × Int) : L2.Key × V := (Sum.inr e.1, V.int e.2)
def rItemsK : V → List V → Hp → VK → Prop := fun x xs H Q => ∃ (a : Addr) (kvs : List (L2.Key × V)), x = .ref a ∧ xs = [] ∧ H a = some (.dK kvs) ∧ ∀ p, H p = none → Q (.ref p) (upd H p (itemsO p a))
def rSortKI : List V → Hp → VK → Prop := fun vs H Q => ∃ (p a : Addr) (ks : List Run), vs = [.ref p] ∧ H p = some (itemsO p a) ∧ H a = some (.dK (ks.map entK)) ∧
  ∀ H' l out, Same H H' → H l = none → Runs H' l out → out.Perm ks → out.Pairwise (fun x y => UPS.lexS y x = false) → Q (.ref l) H'
section
variable {X : Cx}
theorem mt_itemsK : MtR X "dict.items" rItemsK := by
  intro pins s σ H x xs v us Q I rx rxs h
  obtain ⟨a, kvs, rfl, rfl, ha, q⟩ := h
  cases rx
  cases rxs
  obtain ⟨z, hd, vs, rel, dd⟩ := dk_of I.hok ha
  obtain ⟨es, ep, hr, _⟩ := dd.raw
  refine DT.callItems (es := es) (ep := ep) hd hr ?_
  have hf : H s.heap.objs.size = none := I.hok.fresh (Nat.le_refl _)
  exact ⟨.ref s.heap.objs.size, upd H s.heap.objs.size (itemsO s.heap.objs.size a), I.laid (t' := s.toks) (fun b u e => Heap.get?_push_of_some _ e) (Nat.le_refl _) (itemsO_ok (Heap.get?_push_size _ rfl)), rfl, q _ hf⟩
theorem kV_str {k : Str} {P : Program} {w : World} {u : Value} (h : (mixKind P w).is (Sum.inr k) u = true) : ∃ t, u = .str k t := Value.isStrOf_shape h
theorem paired_of {α β : Type} {F : α → β → Prop} : ∀ (l : List α) (f : α → β), (∀ a ∈ l, F a (f a)) → Paired F l (l.map f)
  | [], _, _ => .nil
  | a :: t, f, h => .cons (h a (List.mem_cons_self ..)) (paired_of t f fun b hb => h b (List.mem_cons_of_mem _ hb))
theorem paired_map {α α' β β' : Type} {F : α' → β' → Prop} (f : α → α') (g : β → β') : ∀ {l : List α} {m : List β}, Paired (fun a b => F (f a) (g b)) l m → Paired F (l.map f) (m.map g)
  | _, _, .nil => .nil
  | _, _, .cons h t => .cons h (paired_map f g t)
theorem cr_sortedKI (hc : X.calm = true) : CallR X (.builtin "sorted") rSortKI := by
  intro pins s σ H xs us Q I r h
  obtain ⟨p, a, ks, rfl, hp, ha, q⟩ := h
  obtain rfl := Vals.ref1 r
  have view : s.heap.IsItemsView p a := (show ObjOk X.prog X.w H s.heap p (itemsO p a) from I.hok p _ hp).1
  obtain ⟨z, hd, vs, rel, dd⟩ := dk_of I.hok ha
  obtain ⟨es, ep, hr, hsz, hget⟩ := dd.raw
  have l1 : (ks.map entK).length = vs.length := rel.length
  rw [List.length_map] at l1 z
  have hh : X.A.handled = none := I.ok.hd hc
  refine DT.sortedI (es := es) (ep := ep) hh view hr (by omega) fun h' tk as hk hlt hl hG => ?_
  have lak : as.length = ks.length := by omega
  have nd : as.Nodup := List.Pairwise.imp (fun h => Nat.ne_of_lt h) hG.rise
  -- the pairs that were made
  have pr : ∀ (j : Nat) (b : Addr), as[j]? = some b → ∃ (e : Run) (t u : Tok), ks[j]? = some e ∧ h'.get? b = some { cls := .type "tuple", data := .seq #[Value.str e.1 t, Value.int e.2 u] } := by
    intro j b hj
    obtain ⟨en, he, hg⟩ := hG.pairs j b hj
    have hjs : j < es.size := (Array.getElem?_eq_some_iff.mp he).1
    have hjk : j < ks.length := by omega
    have een : es[j] = en := (Array.getElem?_eq_some_iff.mp he).2
    have hjv : j < vs.length := by omega
    obtain ⟨y, ey, r1, r2⟩ := pget rel (List.getElem?_eq_getElem hjv)
    rw [List.getElem?_map, List.getElem?_eq_getElem hjk] at ey
    have ey : entK ks[j] = y := Option.some.inj ey
    have hv : vs[j]? = some ((Sum.inr (ks[j]).1 : L2.Key), (vs[j]).2) := by
      rw [List.getElem?_eq_getElem hjv]
      congr 1
      refine Prod.ext ?_ rfl
      rw [← r1, ← ey]
    obtain ⟨g1, g2⟩ := hget j hjs _ _ hv
    obtain ⟨t, et⟩ := kV_str g1
    rw [← ey] at r2
    obtain ⟨u, eu⟩ := (show ∃ u, (vs[j]).2 = Value.int (ks[j]).2 u from r2)
    refine ⟨ks[j], t, u, List.getElem?_eq_getElem hjk, ?_⟩
    rw [hg, ← een, et, g2, eu]
  have hob : (h'.push { cls := .type "list", data := .seq (as.map Value.ref).toArray }).get? h'.objs.size = some (seqObj "list" (as.map Value.ref).toArray 0) := Heap.get?_push_size _ rfl
  have kb : ∀ b o, s.heap.get? b = some o → (h'.push { cls := .type "list", data := .seq (as.map Value.ref).toArray }).get? b = some o := fun b o e => Heap.get?_push_of_some _ (hk b o e)
  have ne0 : ∀ b o, h'.get? b = some o → b ≠ h'.objs.size := fun b o e => Nat.ne_of_lt (Heap.lt_size e)
  generalize hh2 : h'.push { cls := .type "list", data := .seq (as.map Value.ref).toArray } = h2 at hob kb ⊢
  have ka : ∀ b o, h'.get? b = some o → h2.get? b = some o := fun b o e => by rw [← hh2]; exact Heap.get?_push_of_some _ e
  -- what stands for what
  obtain ⟨kf, hkf⟩ : ∃ kf : Value → Str × Int, ∀ (j : Nat) (b : Addr), as[j]? = some b → ks[j]? = some (kf (.ref b)) := by
    refine ⟨fun v => match v with | .ref b => (ks[as.idxOf b]?).getD ("", 0) | _ => ("", 0), fun j b hj => ?_⟩
    obtain ⟨hjl, ej⟩ := List.getElem?_eq_some_iff.mp hj
    have ei : as.idxOf b = j := by
      rw [← ej]
      exact List.Nodup.idxOf_getElem nd j hjl
    show ks[j]? = some ((ks[as.idxOf b]?).getD ("", 0))
    rw [ei, List.getElem?_eq_getElem (by omega)]
    rfl
  have pin : ∀ v ∈ as.map Value.ref, UPS.IsSI h2 v (kf v).1 (kf v).2 := by
    intro v hv'
    obtain ⟨b, hb, rfl⟩ := List.mem_map.mp hv'
    obtain ⟨j, hj⟩ := List.mem_iff_getElem?.mp hb
    obtain ⟨e, t, u, he, hg⟩ := pr j b hj
    have ek := hkf j b hj
    rw [he] at ek
    have ek := Option.some.inj ek
    rw [← ek]
    exact ⟨b, _, t, u, 0, rfl, ka _ _ hg, rfl, rfl⟩
  refine wpAny_call_entry PyProof.Rows.slot_list_sort ⟨_, hob, rfl⟩ PyProof.Rows.entry_list_sort
    (SrtO.list_sort_ord (s := { s with heap := h2, toks := tk }) (ltv := fun v u => UPS.lexS (kf v) (kf u)) ⟨fun x y => UPS.swoS.asym _ _, fun x y z => UPS.swoS.tr _ _ _⟩ hob (by rw [List.length_map]; omega) (fun h2' => ?_) fun out hs hb => ⟨_, rfl, ?_⟩) (PyProof.Rows.args_list_sort _)
  · refine UPS.si_sortable (s := { s with heap := h2, toks := tk }) (by omega) pin fun o e => ?_
    have e' : some o = some (seqObj "list" (as.map Value.ref).toArray 0) := e.symm.trans hob
    cases e'
    intro c
    exact absurd (Value.type.inj c) (by decide)
  · show EP X pins σ Q (.ref h'.objs.size) { s with heap := sortedHeap h2 h'.objs.size (as.map Value.ref) out.toArray, toks := tk }
    obtain ⟨zs, pz, ez⟩ : ∃ zs : List Addr, zs.Perm as ∧ zs.map Value.ref = out := by
      have := hb.perm
      obtain ⟨zs, p1, p2⟩ := perm_lift Value.ref this as rfl
      exact ⟨zs, p1, p2⟩
    have kF : ∀ b o, b ≠ h'.objs.size → h2.get? b = some o → (sortedHeap h2 h'.objs.size (as.map Value.ref) out.toArray).get? b = some o := fun b o hb e => (PyProof.Rows.sortedHeap_old hb (Heap.lt_size e)).trans e
    have kS : ∀ b o, s.heap.get? b = some o → (sortedHeap h2 h'.objs.size (as.map Value.ref) out.toArray).get? b = some o := fun b o e => kF b o (ne0 _ _ (hk b o e)) (kb b o e)
    obtain ⟨eF, heF⟩ := PyProof.Rows.sortedHeap_at (vs := as.map Value.ref) (out := out.toArray) hob
    have I1 : Inv X pins σ H { s with heap := sortedHeap h2 h'.objs.size (as.map Value.ref) out.toArray, toks := tk } := I.kept (t' := tk) kS
    have hn0 : H h'.objs.size = none := I.hok.fresh (Nat.le_of_lt hlt)
    have lz : zs.length = ks.length := by rw [pz.length_eq, lak]
    have I2 : Inv X pins σ (upd H h'.objs.size (.lst (zs.map V.ref))) { s with heap := sortedHeap h2 h'.objs.size (as.map Value.ref) out.toArray, toks := tk } :=
      I1.take (h' := sortedHeap h2 h'.objs.size (as.map Value.ref) out.toArray) (t' := tk) (fun b ob _ e => e) (I.fpOk (Nat.le_of_lt hlt) hn0) ⟨by rw [List.length_map, lz]; exact z, out, eF, by rw [← ez]; exact vals_maps (fun z : Addr => V.ref z) (fun z => Value.ref z) zs fun _ _ => rfl, heF⟩
    obtain ⟨H2, I3, g, qt⟩ := takeT (P := fun b vs => vs = [.str (kf (.ref b)).1, .int (kf (.ref b)).2]) I as _ I2 nd fun b hb => by
      obtain ⟨j, hj⟩ := List.mem_iff_getElem?.mp hb
      obtain ⟨e, t, u, he, hg⟩ := pr j b hj
      have ek := hkf j b hj
      rw [he] at ek
      have ek := Option.some.inj ek
      have hbl : s.heap.objs.size ≤ b := Nat.le_of_lt (hG.above b hb)
      refine ⟨hbl, ?_, [.str e.1, .int e.2], by rw [← ek], fun H3 => ⟨(by rw [sizeLine_eq]; show 2 ≤ 16777216; omega), [Value.str e.1 t, Value.int e.2 u], .cons ⟨t, rfl⟩ (.cons ⟨u, rfl⟩ .nil), ⟨_, kF _ _ (ne0 _ _ hg) (ka _ _ hg), rfl, 0, rfl⟩⟩⟩
      rw [upd_ne (ne0 _ _ hg)]
      exact I.hok.fresh hbl
    have gr : Same H H2 := fun b o e => g b o (by rw [upd_ne (ne_of_none e hn0)]; exact e)
    refine ⟨.ref h'.objs.size, H2, I3, rfl, q H2 h'.objs.size (zs.map fun b => kf (.ref b)) gr hn0 ⟨zs.map V.ref, g _ _ upd_same, ?_⟩ ?_ ?_⟩
    · refine paired_map V.ref (fun b => kf (.ref b)) ?_
      have := paired_of (F := fun (b : Addr) (c : Addr) => RunV H2 (V.ref b) (kf (.ref c))) zs id fun b hb => by
        obtain ⟨vs', e1, e2⟩ := qt b (pz.mem_iff.mp hb)
        rw [e1] at e2
        exact ⟨b, rfl, e2⟩
      rw [List.map_id] at this
      exact this
    · have e1 : (as.map fun b => kf (.ref b)) = ks := by
        refine List.ext_getElem? fun j => ?_
        rw [List.getElem?_map]
        cases hj : as[j]? with
        | none =>
          have : as.length ≤ j := List.getElem?_eq_none_iff.mp hj
          rw [List.getElem?_eq_none_iff.mpr (by omega)]
          rfl
        | some b =>
          rw [hkf j b hj]
          rfl
      rw [← e1]
      exact pz.map _
    · have hs : out.Pairwise (fun v u => UPS.lexS (kf u) (kf v) = false) := hs
      rw [← ez, List.pairwise_map] at hs
      rw [List.pairwise_map]
      exact hs
/-! ### sorted(list of runs) -/
def kyR (H : Hp) : V → Run
  | .ref t => match H t with
    | some (.tup [.str a, .int b]) => (a, b)
    | _ => ("", 0)
  | _ => ("", 0)
theorem kyR_of {H : Hp} {v : V} {r : Run} (h : RunV H v r) : kyR H v = r := by
  obtain ⟨t, rfl, ht⟩ := h
  show (match H t with | some (.tup [.str a, .int b]) => (a, b) | _ => (("" : Str), (0 : Int))) = r
  rw [ht]
def rSortR : List V → Hp → VK → Prop := fun vs H Q => ∃ (a : Addr) (ks : List Run), vs = [.ref a] ∧ Runs H a ks ∧
  ∀ H' l out, Same H H' → H l = none → Runs H' l out → out.Perm ks → out.Pairwise (fun x y => UPS.lexS y x = false) → Q (.ref l) H'
theorem kyR_map {H : Hp} : ∀ {xs : List V} {ks : List Run}, Paired (RunV H) xs ks → xs.map (kyR H) = ks
  | _, _, .nil => rfl
  | _, _, .cons h t => by rw [List.map_cons, kyR_of h, kyR_map t]
theorem paired_ky {H : Hp} : ∀ (xs : List V), (∀ x ∈ xs, ∃ r, RunV H x r) → Paired (RunV H) xs (xs.map (kyR H))
  | [], _ => .nil
  | x :: t, h => by
    obtain ⟨r, hr⟩ := h x (List.mem_cons_self ..)
    refine .cons ?_ (paired_ky t fun y hy => h y (List.mem_cons_of_mem _ hy))
    rw [kyR_of hr]
    exact hr
theorem paired_mem {α β : Type} {F : α → β → Prop} : ∀ {xs : List α} {ys : List β}, Paired F xs ys → ∀ x ∈ xs, ∃ y, F x y
  | _, _, .cons h t, x, hx => by
    rcases List.mem_cons.mp hx with e | hx
    · rw [e]
      exact ⟨_, h⟩
    · exact paired_mem t x hx
theorem cr_sortedR : CallR X (.builtin "sorted") rSortR := by
  intro pins s σ H vs us Q I r h
  obtain ⟨a, ks, rfl, ⟨xs, hx, hp⟩, q⟩ := h
  obtain ⟨its, rv, hl, hz⟩ := I.list (SqL.of hx)
  obtain rfl := Vals.ref1 r
  obtain ⟨e1, e2⟩ := refs_back rv fun x m => by
    obtain ⟨y, t, e, _⟩ := paired_mem hp x m
    exact ⟨t, e⟩
  refine SrtO.sorted_ord (ltv := fun v u => UPS.lexS (kyR H (backV v)) (kyR H (backV u))) ⟨fun x y => UPS.swoS.asym _ _, fun x y z => UPS.swoS.tr _ _ _⟩ hl.isList (by rw [← rv.length]; exact hz) (fun h2 h₁ a' ha kk => ?_) fun out hs hb => ?_
  · refine UPS.si_sortable (s := { s with heap := h₁ }) (k := fun u => kyR H (backV u)) (by omega) (fun v hv => ?_) fun o e => ?_
    · obtain ⟨t, rfl⟩ := e2 v hv
      have hm : V.ref t ∈ xs := by rw [e1]; exact List.mem_map.mpr ⟨_, hv, rfl⟩
      obtain ⟨y, hy⟩ := paired_mem hp _ hm
      rw [show kyR H (backV (.ref t)) = y from kyR_of hy]
      obtain ⟨t', e, ht⟩ := hy
      cases e
      obtain ⟨_, its2, r2, o, ho, hc, n, hd⟩ := I.hok _ _ ht
      obtain ⟨u1, u2, rfl, ri, rj⟩ := vals2 r2
      obtain ⟨t1, rfl⟩ := ri
      obtain ⟨t2, rfl⟩ := rj
      exact ⟨t, o, t1, t2, n, rfl, (kk _ _ ho).2, hc, hd⟩
    · have e' : some o = some (seqObj "list" its.toArray 0) := e.symm.trans ha
      cases e'
      intro c
      exact absurd (Value.type.inj c) (by decide)
  · have h3 : ∀ u ∈ out, ∃ a, u = Value.ref a := fun u hu => e2 u (hb.perm.mem_iff.mp hu)
    obtain ⟨n, hn⟩ := sortedAll_at s.heap its out.toArray
    have pm : (out.map backV).Perm xs := by
      rw [e1]
      exact hb.perm.map backV
    have hd : s.heap.objs.size ≤ s.heap.objs.size + 1 := Nat.le_succ _
    have hn0 := I.hok.fresh hd
    refine ⟨.ref _, upd H (s.heap.objs.size + 1) (.lst (out.map backV)), I.laid (t' := s.toks) (fun b o e => sortedAll_old e) hd ⟨?_, out, n, vals_back h3, hn⟩, rfl, q _ _ ((out.map backV).map (kyR H)) (same_upd hn0) hn0 ⟨_, upd_same, ?_⟩ ?_ ?_⟩
    · rw [pm.length_eq]
      exact hz
    · exact Paired.imp (fun _ _ => RunV.same (same_upd hn0)) (paired_ky _ fun x hx => paired_mem hp x (pm.mem_iff.mp hx))
    · rw [← kyR_map hp]
      exact pm.map _
    · rw [List.pairwise_map, List.pairwise_map]
      exact hs
end
end UP

set_option Elab.async false
set_option linter.all false
set_option maxRecDepth 100000
set_option maxHeartbeats 4000000
namespace UP
open PySem PySem.Spec PyProof.Rows L2
def topS (i : Nat) : Stmt := PySem.Challenge.pw_unlikepairs_k02_lengths_kinds_and_parts.main.body.getD i (.Pass ⟨0, 0, 0, 0⟩)
structure Tx (mg : Str → Option Value) : Prop where
  n_isinstance : mg "isinstance" = none
  n_int : mg "int" = none
  n_bool : mg "bool" = none
  n_str : mg "str" = none
  n_list : mg "list" = none
  n_tuple : mg "tuple" = none
  n_len : mg "len" = none
  n_all : mg "all" = none
  n_zip : mg "zip" = none
  n_sum : mg "sum" = none
  n_min : mg "min" = none
  n_max : mg "max" = none
  n_abs : mg "abs" = none
  n_range : mg "range" = none
  n_repr : mg "repr" = none
  n_enumerate : mg "enumerate" = none
  n_any : mg "any" = none
  n_dict : mg "dict" = none
  n_sorted : mg "sorted" = none
  n_set : mg "set" = none
  n_reversed : mg "reversed" = none
  c_MAX_LETTERS : ∃ t, mg "MAX_LETTERS" = some (.int 8 t)
  c_MAX_RUNS : ∃ t, mg "MAX_RUNS" = some (.int 400 t)
  c_MAX_COUNT : ∃ t, mg "MAX_COUNT" = some (.int 1000000000000000000000000000000 t)
section
variable {P : Program} {w : World} {K : PySem.W.Frag} {mg : Str → Option Value} {base : Heap}
/-! is_whole: slots 0:value -/
abbrev s_is_whole : Stmt := topS 9
theorem sc_is_whole : FnScope ["value"] ["value"] (defScope s_is_whole) := ⟨rfl, rfl, rfl, by decide +kernel, rfl, by decide +kernel, by decide +kernel⟩
def sp_is_whole : Sp := fun vs H Q _ => ∃ n : Int, vs = [.int n] ∧ Q (.bl true) H
theorem ok_is_whole (D : Df K mg "is_whole" s_is_whole) (T : Tx mg) : Has P w K mg base 1 "is_whole" ["value"] sp_is_whole := by
  refine has_of D sc_is_whole (fun _ _ _ _ _ _ us hl => match us, hl with | [_], _ => rfl) (fun vs H Q E h => ?_) (fun f cdv A outer s H vs Q E hr h => ?_)
  · obtain ⟨n, rfl, _⟩ := h
    rfl
  · obtain ⟨n, rfl, q⟩ := h
    refine ⟨_, (pss_one (ps_ret (pe_and (pe_callB call_isi (by rfl) T.n_isinstance (by decide +kernel) (pa_cons (pv 0) (pa_cons (pe_bltn (v := .ty "int") (by rfl) T.n_int (by decide +kernel) rfl) pa_nil))) (pe_one (pe_not (pe_callB call_isi (by rfl) T.n_isinstance (by decide +kernel) (pa_cons (pv 0) (pa_cons (pe_bltn (v := .ty "bool") (by rfl) T.n_bool (by decide +kernel) rfl) pa_nil)))))))), ?_⟩
    exact ⟨_, rfl, _, _, _, _, true, rfl, .ty "int", .base (.int n), kit_ty (by decide +kernel), true, rfl, iteT ⟨_, rfl, _, _, _, _, false, rfl, .ty "bool", .base (.int n), kit_ty (by decide +kernel), false, rfl, q⟩⟩
/-! is_within: slots 0:value 1:low 2:high -/
abbrev s_is_within : Stmt := topS 10
theorem sc_is_within : FnScope ["value", "low", "high"] ["value", "low", "high"] (defScope s_is_within) := ⟨rfl, rfl, rfl, by decide +kernel, rfl, by decide +kernel, by decide +kernel⟩
def sp_is_within : Sp := fun vs H Q _ => ∃ n lo hi : Int, vs = [.int n, .int lo, .int hi] ∧ Q (.bl (decide (lo ≤ n ∧ n ≤ hi))) H
theorem ok_is_within (D : Df K mg "is_within" s_is_within) (G_is_whole : Has P w K mg base 1 "is_whole" ["value"] sp_is_whole) : Has P w K mg base 2 "is_within" ["value", "low", "high"] sp_is_within := by
  refine has_of D sc_is_within (fun _ _ _ _ _ _ us hl => match us, hl with | [_, _, _], _ => rfl) (fun vs H Q E h => ?_) (fun f cdv A outer s H vs Q E hr h => ?_)
  · obtain ⟨n, lo, hi, rfl, _⟩ := h
    rfl
  · obtain ⟨n, lo, hi, rfl, q⟩ := h
    refine ⟨_, (pss_one (ps_ret (pe_and (pe_callH G_is_whole (hr.mono (by omega)) (by rfl) (pa_cons (pv 0) pa_nil)) (pe_one (pe_chain op_le op_le (pv 1) (pv 0) (pv 2)))))), ?_⟩
    refine ⟨_, rfl, n, rfl, true, rfl, iteT ⟨_, rfl, _, rfl, _, _, rfl, rfl, _, rfl, ite2 (fun e => ?_) (fun e => ?_)⟩⟩
    · have e := of_decide_eq_true e
      refine ⟨_, rfl, _, _, rfl, rfl, ?_⟩
      show Q (.bl (decide (n ≤ hi))) H
      rw [show decide (n ≤ hi) = decide (lo ≤ n ∧ n ≤ hi) by simp [e]]
      exact q
    · have e : ¬ lo ≤ n := fun z => e (decide_eq_true z)
      show Q (.bl false) H
      rw [show false = decide (lo ≤ n ∧ n ≤ hi) by simp [e]]
      exact q
theorem kit_lst {K : PySem.W.Frag} : PySem.W.kitAny K (.type "list") [.type "list", .type "tuple"] = some true := kitAny_cons (b := true) (kit_ty (by decide +kernel)) (fun z => nomatch z) (fun _ => rfl)
theorem kit_tup {K : PySem.W.Frag} : PySem.W.kitAny K (.type "tuple") [.type "list", .type "tuple"] = some true := kitAny_cons (b := false) (kit_ty (by decide +kernel)) (fun _ => kitAny_cons (b := true) (kit_ty (by decide +kernel)) (fun z => nomatch z) (fun _ => rfl)) (fun z => nomatch z)
/-! is_listed: slots 0:value 1:most -/
abbrev s_is_listed : Stmt := topS 11
theorem sc_is_listed : FnScope ["value", "most"] ["value", "most"] (defScope s_is_listed) := ⟨rfl, rfl, rfl, by decide +kernel, rfl, by decide +kernel, by decide +kernel⟩
def sp_is_listed : Sp := fun vs H Q _ => ∃ (a : Addr) (xs : List V) (m : Int), vs = [.ref a, .int m] ∧ Sq2 H a xs ∧ ∀ H', Same H H' → Q (.bl (decide ((xs.length : Int) ≤ m))) H'
theorem ok_is_listed (D : Df K mg "is_listed" s_is_listed) (T : Tx mg) : Has P w K mg base 1 "is_listed" ["value", "most"] sp_is_listed := by
  refine has_of D sc_is_listed (fun _ _ _ _ _ _ us hl => match us, hl with | [_, _], _ => rfl) (fun vs H Q E h => ?_) (fun f cdv A outer s H vs Q E hr h => ?_)
  · obtain ⟨a, xs, m, rfl, _⟩ := h
    rfl
  · obtain ⟨a, xs, m, rfl, hx, q⟩ := h
    refine ⟨_, (pss_one (ps_ret (pe_and (pe_callB call_isiT (by rfl) T.n_isinstance (by decide +kernel) (pa_cons (pv 0) (pa_cons (pe_tup (pa_cons (pe_bltn (v := .ty "list") (by rfl) T.n_list (by decide +kernel) rfl) (pa_cons (pe_bltn (v := .ty "tuple") (by rfl) T.n_tuple (by decide +kernel) rfl) pa_nil))) pa_nil))) (pe_one (pe_cmpR op_le (pe_callB call_len_seq (by rfl) T.n_len (by decide +kernel) (pa_cons (pv 0) pa_nil)) (pv 1) (nomark _)))))), ?_⟩
    refine ⟨_, rfl, (by show 2 ≤ sizeLine; decide), fun t nt => ?_⟩
    rcases hx with hx | hx
    · refine ⟨_, t, _, _, _, true, rfl, upd_same, .cons (.ty "list") (.cons (.ty "tuple") .nil), .base (.lst (same_upd nt _ _ hx)), kit_lst, true, rfl, iteT ?_⟩
      exact ⟨_, rfl, _, _, rfl, .inl (.of (same_upd nt _ _ hx)), _, rfl, _, _, rfl, rfl, q _ (same_upd nt)⟩
    · refine ⟨_, t, _, _, _, true, rfl, upd_same, .cons (.ty "list") (.cons (.ty "tuple") .nil), .base (.tup (same_upd nt _ _ hx)), kit_tup, true, rfl, iteT ?_⟩
      exact ⟨_, rfl, _, _, rfl, .inr (.of (same_upd nt _ _ hx)), _, rfl, _, _, rfl, rfl, q _ (same_upd nt)⟩
/-! is_couple: slots 0:value -/
abbrev s_is_couple : Stmt := topS 12
theorem sc_is_couple : FnScope ["value"] ["value"] (defScope s_is_couple) := ⟨rfl, rfl, rfl, by decide +kernel, rfl, by decide +kernel, by decide +kernel⟩
def sp_is_couple : Sp := fun vs H Q _ => ∃ (a : Addr) (xs : List V), vs = [.ref a] ∧ Sq2 H a xs ∧ xs.length = 2 ∧ ∀ H', Same H H' → Q (.bl true) H'
theorem ok_is_couple (D : Df K mg "is_couple" s_is_couple) (T : Tx mg) : Has P w K mg base 1 "is_couple" ["value"] sp_is_couple := by
  refine has_of D sc_is_couple (fun _ _ _ _ _ _ us hl => match us, hl with | [_], _ => rfl) (fun vs H Q E h => ?_) (fun f cdv A outer s H vs Q E hr h => ?_)
  · obtain ⟨a, xs, rfl, _⟩ := h
    rfl
  · obtain ⟨a, xs, rfl, hx, hl, q⟩ := h
    refine ⟨_, (pss_one (ps_ret (pe_and (pe_callB call_isiT (by rfl) T.n_isinstance (by decide +kernel) (pa_cons (pv 0) (pa_cons (pe_tup (pa_cons (pe_bltn (v := .ty "list") (by rfl) T.n_list (by decide +kernel) rfl) (pa_cons (pe_bltn (v := .ty "tuple") (by rfl) T.n_tuple (by decide +kernel) rfl) pa_nil))) pa_nil))) (pe_one (pe_cmpR op_eq (pe_callB call_len_seq (by rfl) T.n_len (by decide +kernel) (pa_cons (pv 0) pa_nil)) pe_int (nomark _)))))), ?_⟩
    refine ⟨_, rfl, (by show 2 ≤ sizeLine; decide), fun t nt => ?_⟩
    rcases hx with hx | hx
    · refine ⟨_, t, _, _, _, true, rfl, upd_same, .cons (.ty "list") (.cons (.ty "tuple") .nil), .base (.lst (same_upd nt _ _ hx)), kit_lst, true, rfl, iteT ⟨_, rfl, _, _, rfl, .inl (.of (same_upd nt _ _ hx)), rfl, ?_⟩⟩
      rw [hl]
      exact q _ (same_upd nt)
    · refine ⟨_, t, _, _, _, true, rfl, upd_same, .cons (.ty "list") (.cons (.ty "tuple") .nil), .base (.tup (same_upd nt _ _ hx)), kit_tup, true, rfl, iteT ⟨_, rfl, _, _, rfl, .inr (.of (same_upd nt _ _ hx)), rfl, ?_⟩⟩
      rw [hl]
      exact q _ (same_upd nt)
end
end UP

set_option Elab.async false
set_option linter.all false
set_option maxRecDepth 100000
set_option maxHeartbeats 4000000
namespace UP
open PySem PySem.Spec PyProof.Rows L2
theorem iteP {b : Bool} {A B : Prop} (h : b = true) (x : A) : if b = true then A else B := by
  rw [if_pos h]
  exact x
theorem iteN {b : Bool} {A B : Prop} (h : b = false) (x : B) : if b = true then A else B := by
  rw [if_neg (by rw [h]; decide)]
  exact x
theorem yesT {σ : L2.St} {H : Hp} {A B : Hp → Prop} (h : A H) : tYes σ H (fun b H3 => if b = true then A H3 else B H3) := by
  show (if true = true then A H else B H)
  exact iteT h
theorem lc_gen {J : It} {n : Nat} {g : TG} {tt : TT} {te : TE} {vs : List Nat} {σ : L2.St} {H1 : Hp} {D : Addr} {Qd : Hp → Prop} (Pv : Nat → Hp → Prop) (h0 : Pv 0 (upd H1 D (.lst [])))
    (hg : ∀ i H, i < n → Pv i H → J.go i H) (hst : ∀ H, Pv n H → J.stop n H)
    (hs : ∀ i x H H', i < n → Pv i H → J.yld i H x H' → g x (wipe σ vs) H' fun σ2 H2 => wipe σ2 vs = wipe σ vs ∧ tt σ2 H2 fun b H3 =>
      if b = true then te σ2 H3 fun y H4 => ∃ acc, H4 D = some (.lst acc) ∧ acc.length < sizeLine ∧ Pv (i + 1) (upd H4 D (.lst (acc ++ [y]))) else Pv (i + 1) H3) (hd : ∀ H, Pv n H → Qd H) :
    ∃ W : Nat → Nat → Hp → Prop, (∃ m, W 0 m (upd H1 D (.lst []))) ∧ ∀ i m H, W i m H →
      (J.stop i H ∧ Qd H) ∨ (J.go i H ∧ ∃ Nx : Hp → Prop, (∀ H', Nx H' → ∃ m', m' < m ∧ W (i + 1) m' H') ∧ ∀ x H', J.yld i H x H' → g x (wipe σ vs) H' fun σ2 H2 => wipe σ2 vs = wipe σ vs ∧ tt σ2 H2 fun b H3 =>
        if b = true then te σ2 H3 fun y H4 => ∃ acc, H4 D = some (.lst acc) ∧ acc.length < sizeLine ∧ Nx (upd H4 D (.lst (acc ++ [y]))) else Nx H3) := by
  refine ⟨fun i m H => m = n - i ∧ i ≤ n ∧ Pv i H, ⟨n, by simp, Nat.zero_le _, h0⟩, ?_⟩
  rintro i m H ⟨rfl, hi, p⟩
  by_cases hlt : i < n
  · exact .inr ⟨hg i H hlt p, Pv (i + 1), fun H' p' => ⟨n - (i + 1), by omega, rfl, hlt, p'⟩, fun x H' y => hs i x H H' hlt p y⟩
  · have e : i = n := by omega
    subst e
    exact .inl ⟨hst H p, hd H p⟩
section
variable {X : Cx} {K : PySem.W.Frag}
theorem ix_tupK (h : X.K = K) : IxR X (rIxT K) := h ▸ ix_tup
theorem ix_listK (h : X.K = K) : IxR X (rIxL K) := h ▸ ix_list
theorem pg_tupK {es : List Expr} {k : Nat} {t : TGs} {n : Nat} {pos : Pos} (h : X.K = K) (hc : X.calm = true) (hp : PGs X es t)
    (hn : (assignEach es X.env).length = n := by rfl) (hst : (assignEach es X.env).findIdx? (fun z => z.1) = none := by rfl) : PG X (.Tuple es k pos) (gTup K n t) := by
  subst h
  exact pg_tup hc hp hn hst
theorem call_len_seqK (h : X.K = K) : CallR X (.builtin "len") (fun xs H Q => ∃ p ys, xs = [.ref p] ∧ (SqL K H p ys ∨ SqT K H p ys) ∧ Q (.int ys.length) H) := by
  subst h
  exact call_len_seq
end
theorem ix_seqK {X : Cx} {K : PySem.W.Frag} (h : X.K = K) : IxR X (rIx K) := h ▸ ix_seq
/-! ### lists that grow -/
theorem same_grow {H H4 : Hp} {D : Addr} {o : HO} (n : H D = none) (s : Same H H4) : Same H (upd H4 D o) := fun b x e => by
  rw [upd_ne (ne_of_none e n)]
  exact s b x e
theorem RunV.grow {H : Hp} {D : Addr} {acc acc' : List V} {v : V} {r : Run} (hD : H D = some (.lst acc)) (h : RunV H v r) : RunV (upd H D (.lst acc')) v r := by
  obtain ⟨t, e, h⟩ := h
  refine ⟨t, e, ?_⟩
  rw [upd_ne (ne_of h hD (by intro q; cases q))]
  exact h
theorem prs_grow {H : Hp} {D : Addr} {acc acc' : List V} {xs : List V} {rs : List Run} (hD : H D = some (.lst acc)) (h : Paired (RunV H) xs rs) : Paired (RunV (upd H D (.lst acc'))) xs rs := Paired.imp (fun _ _ => RunV.grow hD) h
theorem prs_same {H H' : Hp} {xs : List V} {rs : List Run} (s : Same H H') (h : Paired (RunV H) xs rs) : Paired (RunV H') xs rs := Paired.imp (fun _ _ => RunV.same s) h
theorem take_snoc {α : Type} {l : List α} {i : Nat} {x : α} (h : l[i]? = some x) : l.take (i + 1) = l.take i ++ [x] := by
  rw [List.take_add_one, h]
  rfl
theorem lc_wk {J : It} {H0 H1 : Hp} {xs : List V} {g : TG} {tt : TT} {te : TE} {vs : List Nat} {σ : L2.St} {D : Addr} {Qd : Hp → Prop} (wk : Wk J H0 xs) (Pv : Nat → Hp → Prop) (hsm : ∀ i H, Pv i H → Same H0 H) (h0 : Pv 0 (upd H1 D (.lst [])))
    (hs : ∀ i x H, xs[i]? = some x → Pv i H → g x (wipe σ vs) H fun σ2 H2 => wipe σ2 vs = wipe σ vs ∧ tt σ2 H2 fun b H3 =>
      if b = true then te σ2 H3 fun y H4 => ∃ acc, H4 D = some (.lst acc) ∧ acc.length < sizeLine ∧ Pv (i + 1) (upd H4 D (.lst (acc ++ [y]))) else Pv (i + 1) H3) (hd : ∀ H, Pv xs.length H → Qd H) :
    ∃ W : Nat → Nat → Hp → Prop, (∃ m, W 0 m (upd H1 D (.lst []))) ∧ ∀ i m H, W i m H →
      (J.stop i H ∧ Qd H) ∨ (J.go i H ∧ ∃ Nx : Hp → Prop, (∀ H', Nx H' → ∃ m', m' < m ∧ W (i + 1) m' H') ∧ ∀ x H', J.yld i H x H' → g x (wipe σ vs) H' fun σ2 H2 => wipe σ2 vs = wipe σ vs ∧ tt σ2 H2 fun b H3 =>
        if b = true then te σ2 H3 fun y H4 => ∃ acc, H4 D = some (.lst acc) ∧ acc.length < sizeLine ∧ Nx (upd H4 D (.lst (acc ++ [y]))) else Nx H3) := by
  refine lc_gen Pv h0 (fun i H hi p => wk.go i H (hsm i H p) hi) (fun H p => wk.stop H (hsm _ H p)) (fun i x H H' hi p y => ?_) hd
  obtain ⟨e, ex⟩ := wk.yld i x H H' (hsm i H p) y
  subst e
  exact hs i x _ ex p
theorem for_wk {J : It} {H0 H : Hp} {xs : List V} {g : TG} {tb : TS} {D : Ends} {σ : L2.St} (wk : Wk J H0 xs) (Pv : Nat → L2.St → Hp → Prop) (hsm : ∀ i σ H, Pv i σ H → Same H0 H) (h0 : Pv 0 σ H)
    (hs : ∀ i x σ H, xs[i]? = some x → Pv i σ H → g x σ H fun σ2 H2 => tb { D with nx := Pv (i + 1), ct := Pv (i + 1), bk := D.nx } σ2 H2) (hd : ∀ σ H, Pv xs.length σ H → D.nx σ H) :
    ∃ W : Nat → Nat → L2.St → Hp → Prop, (∃ m, W 0 m σ H) ∧ ∀ i m σ H, W i m σ H →
      (J.stop i H ∧ D.nx σ H) ∨ (J.go i H ∧ ∃ N : L2.St → Hp → Prop, (∀ σ' H', N σ' H' → ∃ m', m' < m ∧ W (i + 1) m' σ' H') ∧ ∀ x H', J.yld i H x H' → g x σ H' fun σ2 H2 => tb { D with nx := N, ct := N, bk := D.nx } σ2 H2) := by
  refine ⟨fun i m σ H => m = xs.length - i ∧ i ≤ xs.length ∧ Pv i σ H, ⟨xs.length, by omega, Nat.zero_le _, h0⟩, ?_⟩
  rintro i m σ H ⟨rfl, hi, p⟩
  by_cases hlt : i < xs.length
  · refine Or.inr ⟨wk.go i H (hsm i σ H p) hlt, Pv (i + 1), fun σ' H' p' => ⟨xs.length - (i + 1), by omega, rfl, hlt, p'⟩, fun x H' y => ?_⟩
    obtain ⟨e, ex⟩ := wk.yld i x H H' (hsm i σ H p) y
    subst e
    exact hs i x σ _ ex p
  · have e : i = xs.length := by omega
    subst e
    exact Or.inl ⟨wk.stop H (hsm _ σ H p), hd σ H p⟩
section
variable {P : Program} {w : World} {K : PySem.W.Frag} {mg : Str → Option Value} {base : Heap}
theorem lex1 {c d : Nat} : (!decide (([c] : List Nat) < [d])) = decide (d ≤ c) := by
  have e : (([c] : List Nat) < [d]) ↔ c < d := by
    rw [List.cons_lt_cons_iff]
    simp
  by_cases h : c < d
  · rw [decide_eq_true (e.mpr h), decide_eq_false (by omega)]
    rfl
  · rw [decide_eq_false (fun z => h (e.mp z)), decide_eq_true (by omega)]
    rfl
/-! is_kind: slots 0:value 1:letter -/
abbrev s_is_kind : Stmt := topS 13
theorem sc_is_kind : FnScope ["value", "letter"] ["value"] (defScope s_is_kind) := ⟨rfl, rfl, rfl, by decide +kernel, rfl, by decide +kernel, by decide +kernel⟩
def sp_is_kind : Sp := fun vs H Q _ => ∃ z : Str, vs = [.str z] ∧ KindOk z ∧ ∀ H', Same H H' → Q (.bl true) H'
theorem ok_is_kind (D : Df K mg "is_kind" s_is_kind) (T : Tx mg) : Has P w K mg base 1 "is_kind" ["value"] sp_is_kind := by
  refine has_of D sc_is_kind (fun _ _ _ _ _ _ us hl => match us, hl with | [_], _ => rfl) (fun vs H Q E h => ?_) (fun f cdv A outer s H vs Q E hr h => ?_)
  · obtain ⟨n, rfl, _⟩ := h
    rfl
  · obtain ⟨z, rfl, ⟨k1, k2, k3⟩, q⟩ := h
    refine ⟨_, (pss_cons (ps_if (PW.pt (pw_or (pt_not (pt_val (pe_callB call_isi (by rfl) T.n_isinstance (by decide +kernel) (pa_cons (pv 0) (pa_cons (pe_bltn (v := .ty "str") (by rfl) T.n_str (by decide +kernel) rfl) pa_nil))))) (pw_or1 (pt_not (pt_chain op_le op_le pe_int (pe_callB call_len_str (by rfl) T.n_len (by decide +kernel) (pa_cons (pv 0) pa_nil)) (pe_glI T.c_MAX_LETTERS (by rfl))))))) (pss_one (ps_ret pe_bl)) pss_nil)
    (pss_one (ps_ret (pe_callB (cr_all rfl) (by rfl) T.n_all (by decide +kernel) (pa_cons (pe_lc (own := [("letter", 1)]) rfl sc_is_kind.nd (pi_str (pv 0)) (blkOk_by (N := ["value", "letter"]) (sc := defScope s_is_kind) (by decide +kernel)) (fun _ _ _ _ _ => (pg_name (i := 1) sc_is_kind.nd rfl (by first | exact Or.inl rfl | exact Or.inr rfl))) (fun _ _ _ _ _ => pts_nil) (fun _ _ _ _ _ => (pe_chain op_le_str op_le_str pe_str (pv 1) pe_str))) pa_nil))))), ?_⟩
    refine ⟨_, rfl, _, _, _, _, true, rfl, .ty "str", .base (.str z), kit_ty (by decide +kernel), true, rfl, iteF ?_⟩
    refine ⟨_, rfl, z, rfl, smallE (by omega), _, _, rfl, rfl, _, rfl, iteP (decide_eq_true (by omega)) ⟨_, _, rfl, rfl, _, rfl, iteN ?_ ?_⟩⟩
    · show (!decide ((z.length : Int) ≤ 8)) = false
      rw [decide_eq_true (by omega)]
      rfl
    refine ⟨_, rfl, z, rfl, fun L nL => lc_gen (n := z.cps.size) (fun i H' => Same H H' ∧ H' L = some (.lst ((List.replicate i true).map V.bl))) ⟨same_upd nL, upd_same⟩ (fun i H' hi _ => hi) (fun H' _ => Nat.le_refl _) (fun i x H1 H2 hi p y => ?_) (fun H' p => ?_)⟩
    · obtain ⟨rfl, c, ec, rfl⟩ := y
      obtain ⟨sm, hL⟩ := p
      have hc : 97 ≤ c ∧ c ≤ 122 := k3 c (by
        have := Array.mem_of_getElem? ec
        simpa using this)
      have ea : ("a" : Str).cps.toList = [97] := by decide +kernel
      have ez : ("z" : Str).cps.toList = [122] := by decide +kernel
      refine ⟨rfl, yesT ⟨_, rfl, _, _, rfl, rfl, _, rfl, iteP ?_ ⟨_, _, rfl, rfl, _, hL, ?_, ?_, ?_⟩⟩⟩
      · show (!decide (([c] : List Nat) < ("a" : Str).cps.toList)) = true
        rw [ea, lex1]
        exact decide_eq_true hc.1
      · simp only [List.length_map, List.length_replicate]
        exact small (by have : z.cps.size = z.length := rfl; omega)
      · intro b o e
        have nb : b ≠ L := ne_of_none e nL
        rw [upd_ne nb]
        exact sm b o e
      · rw [upd_same]
        have e1 : (!decide ((("z" : Str).cps.toList) < ([c] : List Nat))) = true := by
          rw [ez, lex1]
          exact decide_eq_true hc.2
        show some (HO.lst ((List.replicate i true).map V.bl ++ [V.bl (!decide ((("z" : Str).cps.toList) < ([c] : List Nat)))])) = _
        rw [e1, List.replicate_succ', List.map_append]
        rfl
    · refine ⟨L, _, rfl, .of p.2, ?_⟩
      have e : ((List.replicate z.cps.size true).all id) = true := by simp
      rw [e]
      exact q H' p.1
def StOk (st : Option Run) : Prop := ∀ r, st = some r → KindOk r.1 ∧ 1 ≤ r.2
theorem at0 {α : Type} {x y : α} : atI [x, y] 0 = some x := rfl
theorem at1 {α : Type} {x y : α} : atI [x, y] 1 = some y := rfl
theorem ix0 {K : PySem.W.Frag} {H : Hp} {t : Addr} {x y : V} {Q : VK} (h : Sq2 H t [x, y]) (q : Q x H) : rIx K (.ref t) (.int 0) H Q := h.elim (fun z => .inl ⟨t, _, 0, _, rfl, rfl, .of z, at0, q⟩) (fun z => .inr (.inl ⟨t, _, 0, _, rfl, rfl, .of z, at0, q⟩))
theorem ix1 {K : PySem.W.Frag} {H : Hp} {t : Addr} {x y : V} {Q : VK} (h : Sq2 H t [x, y]) (q : Q y H) : rIx K (.ref t) (.int 1) H Q := h.elim (fun z => .inl ⟨t, _, 1, _, rfl, rfl, .of z, at1, q⟩) (fun z => .inr (.inl ⟨t, _, 1, _, rfl, rfl, .of z, at1, q⟩))
theorem all_rep (n : Nat) : ((List.replicate n true).all id) = true := by simp
/-! is_run: slots 0:value -/
abbrev s_is_run : Stmt := topS 14
theorem sc_is_run : FnScope ["value"] ["value"] (defScope s_is_run) := ⟨rfl, rfl, rfl, by decide +kernel, rfl, by decide +kernel, by decide +kernel⟩
def sp_is_run : Sp := fun vs H Q _ => ∃ (v : V) (r : Run), vs = [v] ∧ RunG H v r ∧ RunOk r ∧ ∀ H', Same H H' → Q (.bl true) H'
theorem ok_is_run (D : Df K mg "is_run" s_is_run) (T : Tx mg) (G_is_couple : Has P w K mg base 1 "is_couple" ["value"] sp_is_couple) (G_is_kind : Has P w K mg base 1 "is_kind" ["value"] sp_is_kind) (G_is_within : Has P w K mg base 2 "is_within" ["value", "low", "high"] sp_is_within) :
    Has P w K mg base 3 "is_run" ["value"] sp_is_run := by
  refine has_of D sc_is_run (fun _ _ _ _ _ _ us hl => match us, hl with | [_], _ => rfl) (fun vs H Q E h => ?_) (fun f cdv A outer s H vs Q E hr h => ?_)
  · obtain ⟨v, r, rfl, _⟩ := h
    rfl
  · obtain ⟨v, r, rfl, ⟨t, rfl, ht⟩, ⟨k, c1, c2⟩, q⟩ := h
    refine ⟨_, (pss_one (ps_ret (pe_and (pe_callH G_is_couple (hr.mono (by omega)) (by rfl) (pa_cons (pv 0) pa_nil)) (pe_and (pe_callH G_is_kind (hr.mono (by omega)) (by rfl) (pa_cons (pe_ix ix_seq (pv 0) pe_int (fun _ _ => rfl)) pa_nil)) (pe_one (pe_callH G_is_within (hr.mono (by omega)) (by rfl) (pa_cons (pe_ix ix_seq (pv 0) pe_int (fun _ _ => rfl)) (pa_cons pe_int (pa_cons (pe_glI T.c_MAX_COUNT (by rfl)) pa_nil))))))))), ?_⟩
    refine ⟨_, rfl, t, _, rfl, ht, rfl, fun H1 s1 => ⟨true, rfl, iteT ?_⟩⟩
    refine ⟨_, rfl, ix0 (ht.same s1) ⟨r.1, rfl, k, fun H2 s2 => ⟨true, rfl, iteT ?_⟩⟩⟩
    refine ⟨_, rfl, ix1 ((ht.same s1).same s2) ⟨r.2, 1, _, rfl, ?_⟩⟩
    rw [decide_eq_true ⟨c1, c2⟩]
    exact q _ (s1.trans s2)
/-! is_sequence: slots 0:value 1:run 2:following -/
abbrev s_is_sequence : Stmt := topS 15
theorem sc_is_sequence : FnScope ["value", "run", "following"] ["value"] (defScope s_is_sequence) := ⟨rfl, rfl, rfl, by decide +kernel, rfl, by decide +kernel, by decide +kernel⟩
def sp_is_sequence : Sp := fun vs H Q _ => ∃ (v : V) (rs : List Run), vs = [v] ∧ RunsG H v rs ∧ SeqOk rs ∧ ∀ H', Same H H' → Q (.bl true) H'
theorem ok_is_sequence (D : Df K mg "is_sequence" s_is_sequence) (T : Tx mg) (G_is_listed : Has P w K mg base 1 "is_listed" ["value", "most"] sp_is_listed) (G_is_run : Has P w K mg base 3 "is_run" ["value"] sp_is_run) :
    Has P w K mg base 4 "is_sequence" ["value"] sp_is_sequence := by
  refine has_of D sc_is_sequence (fun _ _ _ _ _ _ us hl => match us, hl with | [_], _ => rfl) (fun vs H Q E h => ?_) (fun f cdv A outer s H vs Q E hr h => ?_)
  · obtain ⟨v, r, rfl, _⟩ := h
    rfl
  · obtain ⟨v, rs, rfl, ⟨a, xs, rfl, hx, hp⟩, ⟨l4, rok, alt⟩, q⟩ := h
    have lx : xs.length = rs.length := Paired.len hp
    refine ⟨_, (pss_cons (ps_if (PW.pt (pw_or (pt_not (pt_val (pe_callH G_is_listed (hr.mono (by omega)) (by rfl) (pa_cons (pv 0) (pa_cons (pe_glI T.c_MAX_RUNS (by rfl)) pa_nil))))) (pw_or1 (pt_not (pt_val (pe_callB (cr_all rfl) (by rfl) T.n_all (by decide +kernel) (pa_cons (pe_lc (own := [("run", 1)]) rfl sc_is_sequence.nd (pi_seqV 0) (blkOk_by (N := ["value", "run", "following"]) (sc := defScope s_is_sequence) (by decide +kernel)) (fun _ _ _ _ _ => (pg_name (i := 1) sc_is_sequence.nd rfl (by first | exact Or.inl rfl | exact Or.inr rfl))) (fun _ _ _ _ _ => pts_nil) (fun _ _ _ _ _ => (pe_callH G_is_run (hr.mono (by omega)) (by rfl) (pa_cons (pv 1) pa_nil)))) pa_nil))))))) (pss_one (ps_ret pe_bl)) pss_nil)
    (pss_one (ps_ret (pe_callB (cr_all rfl) (by rfl) T.n_all (by decide +kernel) (pa_cons (pe_lc (own := [("run", 1), ("following", 2)]) rfl sc_is_sequence.nd (pi_zip1 (i := 0) (RZ.pi_zipA (by rfl) T.n_zip (pa_cons (pv 0) (pa_cons (pe_slice (SlR.or sl_list sl_tupA) (pv 0) (po_some pe_int) po_none) pa_nil))) (fun _ _ _ q => ⟨1, rfl, q⟩) (fun _ _ _ q => q)) (blkOk_by (N := ["value", "run", "following"]) (sc := defScope s_is_sequence) (by decide +kernel)) (fun _ _ _ _ _ => (pg_tupK (K := K) (n := 2) rfl rfl (pgs_cons (pg_name (i := 1) sc_is_sequence.nd rfl (by first | exact Or.inl rfl | exact Or.inr rfl)) (pgs_cons (pg_name (i := 2) sc_is_sequence.nd rfl (by first | exact Or.inl rfl | exact Or.inr rfl)) pgs_nil)))) (fun _ _ _ _ _ => pts_nil) (fun _ _ _ _ _ => (pe_cmpR op_ne (pe_ix (ix_seqK (K := K) rfl) (pv 1) pe_int (fun _ _ => rfl)) (pe_ix (ix_seqK (K := K) rfl) (pv 2) pe_int (fun _ _ => rfl)) (nomark _)))) pa_nil))))), ?_⟩
    refine ⟨_, rfl, a, xs, 400, rfl, hx, fun H1 s1 => ⟨_, rfl, iteN ?_ ?_⟩⟩
    · show (!decide ((xs.length : Int) ≤ 400)) = false
      rw [decide_eq_true (by omega)]
      rfl
    refine ⟨a, xs, rfl, hx.same s1, fun J wk L nL => lc_wk wk (fun i H' => Same H1 H' ∧ H' L = some (.lst ((List.replicate i true).map V.bl))) (fun _ _ p => p.1) ⟨same_upd nL, upd_same⟩ (fun i x H2 ex p => ?_) (fun H2 p => ?_)⟩
    · obtain ⟨sm, hL⟩ := p
      obtain ⟨r, er, hr1⟩ := Paired.at hp ex
      have hi : i < xs.length := (List.getElem?_eq_some_iff.mp ex).1
      refine ⟨rfl, yesT ⟨_, rfl, x, r, rfl, RunG.same (s1.trans sm) hr1, rok r (List.mem_of_getElem? er), fun H3 s3 => ⟨_, s3 _ _ hL, ?_, same_grow nL (sm.trans s3), ?_⟩⟩⟩
      · simp only [List.length_map, List.length_replicate]
        exact small (by omega)
      · rw [upd_same, List.replicate_succ', List.map_append]
        rfl
    · refine ⟨L, _, rfl, .of p.2, _, rfl, iteN ?_ ?_⟩
      · rw [all_rep]
        rfl
      have s2 : Same H H2 := s1.trans p.1
      refine ⟨a, xs, rfl, hx.same s2, fun J Hc sc wk M nM => ?_⟩
      have sA : Same H Hc := s2.trans sc
      refine lc_gen (n := xs.length - 1) (fun i H' => Same Hc H' ∧ H' M = some (.lst ((List.replicate i true).map V.bl))) ⟨same_upd nM, upd_same⟩ (fun i H' hi p => wk.go i H' p.1 (by omega)) (fun H' p => wk.stop H' p.1) (fun i x H3 H4 hi p y => ?_) (fun H' p => ?_)
      · obtain ⟨T', x1, x2, rfl, nT, rfl, g1, g2⟩ := wk.yld i x H3 H4 p.1 y
        obtain ⟨sm, hM⟩ := p
        have g2 := g2 (by omega)
        have sB : Same H H3 := sA.trans sm
        obtain ⟨r1, e1, v1⟩ := Paired.at hp g1
        obtain ⟨r2, e2, v2⟩ := Paired.at hp g2
        obtain ⟨t1, rfl, w1⟩ := RunG.same (sB.trans (same_upd (o := .tup [x1, x2]) nT)) v1
        obtain ⟨t2, rfl, w2⟩ := RunG.same (sB.trans (same_upd (o := .tup [_, x2]) nT)) v2
        refine ⟨T', _, rfl, .of upd_same, rfl, _, _, rfl, _, _, rfl, rfl, rfl, yesT ?_⟩
        refine ⟨_, rfl, ix0 w1 ⟨_, rfl, ix0 w2 ⟨rfl, _, same_upd nT _ _ hM, ?_, same_grow nM (sm.trans (same_upd nT)), ?_⟩⟩⟩
        · simp only [List.length_map, List.length_replicate]
          exact small (by omega)
        · rw [upd_same, List.replicate_succ', List.map_append]
          have ne : (!decide (V.str r1.1 = V.str r2.1)) = true := by
            rw [decide_eq_false (fun z => alt i r1 r2 e1 e2 (V.str.inj z))]
            rfl
          rw [ne]
          rfl
      · refine ⟨M, _, rfl, .of p.2, ?_⟩
        rw [all_rep]
        exact q _ (sA.trans p.1)
/-! checked_runs: slots 0:sequence 1:kind 2:count -/
abbrev s_checked_runs : Stmt := topS 16
theorem sc_checked_runs : FnScope ["sequence", "kind", "count"] ["sequence"] (defScope s_checked_runs) := ⟨rfl, rfl, rfl, by decide +kernel, rfl, by decide +kernel, by decide +kernel⟩
def sp_checked_runs : Sp := fun vs H Q _ => ∃ (v : V) (rs : List Run), vs = [v] ∧ RunsG H v rs ∧ SeqOk rs ∧ ∀ H' p, Same H H' → H p = none → Runs H' p rs → Q (.ref p) H'
theorem ok_checked_runs (D : Df K mg "checked_runs" s_checked_runs) (T : Tx mg) (G_is_sequence : Has P w K mg base 4 "is_sequence" ["value"] sp_is_sequence) :
    Has P w K mg base 5 "checked_runs" ["sequence"] sp_checked_runs := by
  refine has_of D sc_checked_runs (fun _ _ _ _ _ _ us hl => match us, hl with | [_], _ => rfl) (fun vs H Q E h => ?_) (fun f cdv A outer s H vs Q E hr h => ?_)
  · obtain ⟨v, r, rfl, _⟩ := h
    rfl
  · obtain ⟨v, rs, rfl, hR, ok, q⟩ := h
    refine ⟨_, (pss_cons (ps_if (pt_not (pt_val (pe_callH G_is_sequence (hr.mono (by omega)) (by rfl) (pa_cons (pv 0) pa_nil)))) (pss_one ps_never) pss_nil)
    (pss_one (ps_ret (pe_lc (own := [("kind", 1), ("count", 2)]) rfl sc_checked_runs.nd (pi_seqV 0) (blkOk_by (N := ["sequence", "kind", "count"]) (sc := defScope s_checked_runs) (by decide +kernel)) (fun _ _ _ _ _ => (pg_any (n := 2) rfl (pgs_cons (pg_name (i := 1) sc_checked_runs.nd rfl (by first | exact Or.inl rfl | exact Or.inr rfl)) (pgs_cons (pg_name (i := 2) sc_checked_runs.nd rfl (by first | exact Or.inl rfl | exact Or.inr rfl)) pgs_nil)))) (fun _ _ _ _ _ => pts_nil) (fun _ _ _ _ _ => (pe_tup (pa_cons (pv 1) (pa_cons (pv 2) pa_nil)))))))), ?_⟩
    refine ⟨_, rfl, v, rs, rfl, hR, ok, fun H1 s1 => ⟨true, rfl, iteF ?_⟩⟩
    obtain ⟨a, xs, rfl, hx, hp⟩ := hR
    have lx : xs.length = rs.length := Paired.len hp
    refine ⟨a, xs, rfl, hx.same s1, fun J wk L nL => lc_wk wk (fun i H' => Same H1 H' ∧ ∃ ys, H' L = some (.lst ys) ∧ Paired (RunV H') ys (rs.take i)) (fun _ _ p => p.1) ⟨same_upd nL, [], upd_same, .nil⟩ (fun i x H2 ex p => ?_) (fun H2 p => ?_)⟩
    · obtain ⟨sm, ys, hL, hy⟩ := p
      obtain ⟨r, er, hr1⟩ := Paired.at hp ex
      have hi : i < xs.length := (List.getElem?_eq_some_iff.mp ex).1
      obtain ⟨t, rfl, ht⟩ := RunG.same (s1.trans sm) hr1
      refine ⟨t, _, rfl, ht, rfl, _, _, rfl, _, _, rfl, rfl, rfl, yesT ⟨_, rfl, _, rfl, (by show 2 ≤ sizeLine; decide), fun n nn => ⟨_, same_upd nn _ _ hL, ?_, same_grow nL (sm.trans (same_upd nn)), _, upd_same, ?_⟩⟩⟩
      · have := Paired.len hy
        rw [List.length_take] at this
        exact small (by have := ok.1; omega)
      · rw [take_snoc er]
        refine Paired.app (prs_grow (same_upd nn _ _ hL) (prs_same (same_upd nn) hy)) (.cons ?_ .nil)
        exact RunV.grow (same_upd nn _ _ hL) ⟨n, rfl, upd_same⟩
    · obtain ⟨sm, ys, hL, hy⟩ := p
      rw [lx, List.take_length] at hy
      exact q H2 L (s1.trans sm) (s1.free nL) ⟨ys, hL, hy⟩
end
end UP

set_option Elab.async false
set_option linter.all false
set_option maxRecDepth 100000
set_option maxHeartbeats 4000000
namespace UP
open PySem PySem.Spec PyProof.Rows L2
section
variable {P : Program} {w : World} {K : PySem.W.Frag} {mg : Str → Option Value} {base : Heap}
def lenR (rs : List Run) : Int := (rs.map (·.2)).sum
/-! length_of: slots 0:runs 1:kind 2:count -/
abbrev s_length_of : Stmt := topS 18
theorem sc_length_of : FnScope ["runs", "kind", "count"] ["runs"] (defScope s_length_of) := ⟨rfl, rfl, rfl, by decide +kernel, rfl, by decide +kernel, by decide +kernel⟩
def sp_length_of : Sp := fun vs H Q _ => ∃ (a : Addr) (rs : List Run), vs = [.ref a] ∧ Runs H a rs ∧ rs.length ≤ 1000 ∧ ∀ H', Same H H' → Q (.int (lenR rs)) H'
theorem ok_length_of (D : Df K mg "length_of" s_length_of) (T : Tx mg) : Has P w K mg base 1 "length_of" ["runs"] sp_length_of := by
  refine has_of D sc_length_of (fun _ _ _ _ _ _ us hl => match us, hl with | [_], _ => rfl) (fun vs H Q E h => ?_) (fun f cdv A outer s H vs Q E hr h => ?_)
  · obtain ⟨v, r, rfl, _⟩ := h
    rfl
  · obtain ⟨a, rs, rfl, ⟨xs, hx, hp⟩, l4, q⟩ := h
    have lx : xs.length = rs.length := Paired.len hp
    refine ⟨_, (pss_one (ps_ret (pe_callB (cr_sum rfl) (by rfl) T.n_sum (by decide +kernel) (pa_cons (pe_lc (own := [("kind", 1), ("count", 2)]) rfl sc_length_of.nd (pi_list (pv 0)) (blkOk_by (N := ["runs", "kind", "count"]) (sc := defScope s_length_of) (by decide +kernel)) (fun _ _ _ _ _ => (pg_tupK (K := K) (n := 2) rfl rfl (pgs_cons (pg_name (i := 1) sc_length_of.nd rfl (by first | exact Or.inl rfl | exact Or.inr rfl)) (pgs_cons (pg_name (i := 2) sc_length_of.nd rfl (by first | exact Or.inl rfl | exact Or.inr rfl)) pgs_nil)))) (fun _ _ _ _ _ => pts_nil) (fun _ _ _ _ _ => (pv 2))) pa_nil)))), ?_⟩
    refine ⟨_, rfl, a, rfl, ⟨xs, .of hx⟩, fun L nL => lc_list (K := K) (a := a) (xs := xs) (fun i H' => Same H H' ∧ H' L = some (.lst (((rs.map (·.2)).take i).map V.int))) ⟨same_upd nL, upd_same⟩ (fun i H' _ p => .of (p.1 _ _ hx)) (fun i x H2 ex p => ?_) (fun H2 p => ?_)⟩
    · obtain ⟨sm, hL⟩ := p
      obtain ⟨r, er, hr1⟩ := Paired.at hp ex
      have hi : i < xs.length := (List.getElem?_eq_some_iff.mp ex).1
      obtain ⟨t, rfl, ht⟩ := RunV.same sm hr1
      refine ⟨t, _, rfl, .of ht, rfl, _, _, rfl, _, _, rfl, rfl, rfl, yesT ⟨_, rfl, _, hL, ?_, same_grow nL sm, ?_⟩⟩
      · simp only [List.length_map, List.length_take]
        exact small (by omega)
      · rw [upd_same, take_snoc (x := r.2) (by rw [List.getElem?_map, er]; rfl), List.map_append]
        rfl
    · refine ⟨L, (rs.map (fun r : Run => r.2)), rfl, .of ?_, q H2 p.1⟩
      have := p.2
      rw [List.take_of_length_le (by rw [List.length_map]; omega)] at this
      exact this
end
end UP

set_option Elab.async false
set_option linter.all false
set_option maxRecDepth 100000
set_option maxHeartbeats 4000000
namespace UP
open PySem PySem.Spec PyProof.Rows L2
/-! ### the mirror of cut -/
theorem lenR_nil : lenR [] = 0 := rfl
theorem lenR_cons (r : Run) (l : List Run) : lenR (r :: l) = r.2 + lenR l := by
  unfold lenR
  rw [List.map_cons, List.sum_cons]
theorem lenR_app (l m : List Run) : lenR (l ++ m) = lenR l + lenR m := by
  induction l with
  | nil => rw [List.nil_append, lenR_nil]; omega
  | cons r t ih => rw [List.cons_append, lenR_cons, lenR_cons, ih]; omega
theorem lenR_snoc (l : List Run) (r : Run) : lenR (l ++ [r]) = lenR l + r.2 := by
  rw [lenR_app, lenR_cons, lenR_nil]
  omega
def sizeR (b s e c : Int) : Int := (if b + c < e then b + c else e) - (if b > s then b else s)
def pieceR (b s e : Int) (r : Run) : List Run := if 0 < sizeR b s e r.2 then [(r.1, sizeR b s e r.2)] else []
def cutR (s e : Int) : Int → List Run → List Run
  | _, [] => []
  | b, r :: t => pieceR b s e r ++ cutR s e (b + r.2) t
theorem cutR_snoc (s e : Int) : ∀ (l : List Run) (b : Int) (r : Run), cutR s e b (l ++ [r]) = cutR s e b l ++ pieceR (b + lenR l) s e r
  | [], b, r => by
    show pieceR b s e r ++ [] = [] ++ pieceR (b + lenR []) s e r
    rw [lenR_nil, Int.add_zero, List.append_nil, List.nil_append]
  | x :: t, b, r => by
    show pieceR b s e x ++ cutR s e (b + x.2) (t ++ [r]) = (pieceR b s e x ++ cutR s e (b + x.2) t) ++ pieceR (b + lenR (x :: t)) s e r
    rw [cutR_snoc s e t, lenR_cons, List.append_assoc, Int.add_assoc]
theorem pieceR_len (b s e : Int) (r : Run) : (pieceR b s e r).length ≤ 1 := by
  unfold pieceR
  split <;> simp
theorem cutR_len (s e : Int) : ∀ (l : List Run) (b : Int), (cutR s e b l).length ≤ l.length
  | [], _ => Nat.le_refl _
  | r :: t, b => by
    show (pieceR b s e r ++ cutR s e (b + r.2) t).length ≤ (r :: t).length
    have h1 := pieceR_len b s e r
    have h2 := cutR_len s e t (b + r.2)
    rw [List.length_append, List.length_cons]
    omega
section
variable {P : Program} {w : World} {K : PySem.W.Frag} {mg : Str → Option Value} {base : Heap}
/-! cut: slots 0:runs 1:start 2:length 3:end 4:part 5:before 6:kind 7:count 8:after 9:size -/
abbrev s_cut : Stmt := topS 19
theorem sc_cut : FnScope ["runs", "start", "length", "end", "part", "before", "kind", "count", "after", "size"] ["runs", "start", "length"] (defScope s_cut) := ⟨rfl, rfl, rfl, by decide +kernel, rfl, by decide +kernel, by decide +kernel⟩
def sp_cut : Sp := fun vs H Q _ => ∃ (a : Addr) (rs : List Run) (s l : Int), vs = [.ref a, .int s, .int l] ∧ Runs H a rs ∧ rs.length ≤ 1000 ∧ ∀ H' p, Same H H' → H p = none → Runs H' p (cutR s (s + l) 0 rs) → Q (.ref p) H'
theorem ok_cut (D : Df K mg "cut" s_cut) (T : Tx mg) : Has P w K mg base 1 "cut" ["runs", "start", "length"] sp_cut := by
  refine has_of D sc_cut (fun _ _ _ _ _ _ us hl => match us, hl with | [_, _, _], _ => rfl) (fun vs H Q E h => ?_) (fun f cdv A outer s₀ H vs Q E hr h => ?_)
  · obtain ⟨a, rs, s, l, rfl, _⟩ := h
    rfl
  · obtain ⟨a, rs, s, l, rfl, ⟨xs, hx, hp⟩, l4, q⟩ := h
    have lx : xs.length = rs.length := Paired.len hp
    refine ⟨_, (pss_cons (ps_set (i := 3) sc_cut.nd rfl (by first | exact Or.inl rfl | exact Or.inr rfl) (pe_op op_add (pv 1) (pv 2)))
    (pss_cons (ps_set (i := 4) sc_cut.nd rfl (by first | exact Or.inl rfl | exact Or.inr rfl) (pe_lst pa_nil))
    (pss_cons (ps_set (i := 5) sc_cut.nd rfl (by first | exact Or.inl rfl | exact Or.inr rfl) pe_int)
    (pss_cons (ps_for PassesOwn.never rfl (pi_list (pv 0)) (pg_tup rfl (pgs_cons (pg_name (i := 6) sc_cut.nd rfl (by first | exact Or.inl rfl | exact Or.inr rfl)) (pgs_cons (pg_name (i := 7) sc_cut.nd rfl (by first | exact Or.inl rfl | exact Or.inr rfl)) pgs_nil)))
      (pss_cons (ps_set (i := 8) sc_cut.nd rfl (by first | exact Or.inl rfl | exact Or.inr rfl) (pe_op op_add (pv 5) (pv 7)))
    (pss_cons (ps_set (i := 9) sc_cut.nd rfl (by first | exact Or.inl rfl | exact Or.inr rfl) (pe_op op_sub (pe_callB (call_min2 rfl) (by rfl) T.n_min (by decide +kernel) (pa_cons (pv 3) (pa_cons (pv 8) pa_nil))) (pe_callB (call_max2 rfl) (by rfl) T.n_max (by decide +kernel) (pa_cons (pv 1) (pa_cons (pv 5) pa_nil)))))
    (pss_cons (ps_if (pt_cmpR op_gt (pv 9) pe_int (nomark _)) (pss_one (ps_expr (pe_bm PySem.F.plainAttrs_list PySem.F.slot_list_append PySem.F.type_list_append mt_append (pv 4) (pa_cons (pe_tup (pa_cons (pv 6) (pa_cons (pv 9) pa_nil))) pa_nil)))) pss_nil)
    (pss_one (ps_set (i := 5) sc_cut.nd rfl (by first | exact Or.inl rfl | exact Or.inr rfl) (pv 8)))))))
    (pss_one (ps_ret (pv 4))))))), ?_⟩
    refine ⟨_, rfl, _, rfl, _, _, rfl, rfl, Nat.zero_le _, fun p np => ?_⟩
    refine ⟨_, rfl, a, rfl, ⟨xs, .of (same_upd np _ _ hx)⟩, for_list (K := K) (a := a) (xs := xs) (fun i σ H' => ∃ b y6 y7 y8 y9, b = lenR (rs.take i) ∧ σ = [some (.ref a), some (.int s), some (.int l), some (.int (s + l)), some (.ref p), some (.int b), y6, y7, y8, y9] ∧ Same H H' ∧ ∃ ys, H' p = some (.lst ys) ∧ Paired (RunV H') ys (cutR s (s + l) 0 (rs.take i)))
      ⟨0, none, none, none, none, rfl, rfl, same_upd np, [], upd_same, .nil⟩ (fun i σ H' _ hP => ?_) (fun i x σ H1 ex hP => ?_) (fun σ H1 hP => ?_)⟩
    · obtain ⟨_, _, _, _, _, _, _, sm, _⟩ := hP
      exact .of (sm _ _ hx)
    · obtain ⟨b, y6, y7, y8, y9, rfl, rfl, sm, ys, hL, hy⟩ := hP
      obtain ⟨r, er, hr1⟩ := Paired.at hp ex
      have hi : i < xs.length := (List.getElem?_eq_some_iff.mp ex).1
      obtain ⟨t, rfl, ht⟩ := RunV.same sm hr1
      have el : lenR (rs.take (i + 1)) = lenR (rs.take i) + r.2 := by rw [take_snoc er, lenR_snoc]
      have ec : cutR s (s + l) 0 (rs.take (i + 1)) = cutR s (s + l) 0 (rs.take i) ++ pieceR (lenR (rs.take i)) s (s + l) r := by
        rw [take_snoc er, cutR_snoc, Int.zero_add]
      refine ⟨t, _, rfl, .of ht, rfl, _, _, rfl, _, _, rfl, rfl, ?_⟩
      refine ⟨_, rfl, _, rfl, _, _, rfl, rfl, ?_⟩
      refine ⟨_, rfl, _, rfl, _, _, rfl, _, rfl, _, rfl, _, _, rfl, _, _, rfl, rfl, ?_⟩
      refine ⟨_, rfl, _, _, rfl, rfl, _, rfl, ite2 (fun e => ?_) (fun e => ?_)⟩
      · have e : 0 < sizeR (lenR (rs.take i)) s (s + l) r.2 := of_decide_eq_true e
        have epc : pieceR (lenR (rs.take i)) s (s + l) r = [(r.1, sizeR (lenR (rs.take i)) s (s + l) r.2)] := if_pos e
        refine ⟨_, rfl, .inl ⟨rfl, _, SqL.of hL⟩, _, rfl, _, rfl, (by show 2 ≤ sizeLine; decide), fun n nn => ⟨p, _, _, rfl, rfl, same_upd nn _ _ hL, ?_, ?_⟩⟩
        · have h1 := Paired.len hy
          have h2 := cutR_len s (s + l) (rs.take i) 0
          rw [List.length_take] at h2
          exact small (by omega)
        · refine ⟨_, rfl, _, _, _, _, _, el.symm, rfl, same_grow np (sm.trans (same_upd nn)), _, upd_same, ?_⟩
          · rw [ec, epc]
            exact Paired.app (prs_grow (same_upd nn _ _ hL) (prs_same (same_upd nn) hy)) (.cons (RunV.grow (same_upd nn _ _ hL) ⟨n, rfl, upd_same⟩) .nil)
      · have e : ¬ 0 < sizeR (lenR (rs.take i)) s (s + l) r.2 := fun z => e (decide_eq_true z)
        have epc : pieceR (lenR (rs.take i)) s (s + l) r = [] := if_neg e
        refine ⟨_, rfl, _, _, _, _, _, el.symm, rfl, sm, _, hL, ?_⟩
        · rw [ec, epc, List.append_nil]
          exact hy
    · obtain ⟨b, y6, y7, y8, y9, rfl, rfl, sm, ys, hL, hy⟩ := hP
      rw [lx, List.take_length] at hy
      exact ⟨_, rfl, q H1 p sm np ⟨ys, hL, hy⟩⟩
end
end UP

set_option Elab.async false
set_option linter.all false
set_option maxRecDepth 100000
set_option maxHeartbeats 4000000
namespace UP
open PySem PySem.Spec PyProof.Rows L2
/-! ### the mirror of the states -/
def numR : Option Run → Int
  | none => 0
  | some r => r.2
def leavR : Option Run → Str → Int → Int
  | none, _, _ => 0
  | some r, k, c => if r.1 = k then 0 else if c < r.2 then c else r.2
def stepR : Option Run → Str → Int → Option Run
  | some r, k, c => if r.1 = k then some (k, r.2 + c) else if 0 < r.2 - c then some (r.1, r.2 - c) else if r.2 - c = 0 then none else some (k, -(r.2 - c))
  | none, k, c => some (k, c)
def withR (k : Str) (n : Int) : Option Run := if n = 0 then none else some (k, n)
def stR (rs : List Run) (st : Option Run) : Option Run := rs.foldl (fun s r => stepR s r.1 r.2) st
theorem stR_snoc (l : List Run) (r : Run) (st : Option Run) : stR (l ++ [r]) st = stepR (stR l st) r.1 r.2 := by
  unfold stR
  rw [List.foldl_append]
  rfl
section
variable {P : Program} {w : World} {K : PySem.W.Frag} {mg : Str → Option Value} {base : Heap}
/-! part_of: slots 0:sequence 1:start 2:length 3:runs 4:total -/
abbrev s_part_of : Stmt := topS 23
theorem sc_part_of : FnScope ["sequence", "start", "length", "runs", "total"] ["sequence", "start", "length"] (defScope s_part_of) := ⟨rfl, rfl, rfl, by decide +kernel, rfl, by decide +kernel, by decide +kernel⟩
def sp_part_of : Sp := fun vs H Q _ => ∃ (a : V) (rs : List Run) (s l : Int), vs = [a, .int s, .int l] ∧ RunsG H a rs ∧ SeqOk rs ∧ 0 ≤ s ∧ 0 ≤ l ∧ s + l ≤ lenR rs ∧ ∀ H' p, Same H H' → H p = none → Runs H' p (cutR s (s + l) 0 rs) → Q (.ref p) H'
theorem ok_part_of (D : Df K mg "part_of" s_part_of) (T : Tx mg) (G_checked_runs : Has P w K mg base 5 "checked_runs" ["sequence"] sp_checked_runs) (G_length_of : Has P w K mg base 1 "length_of" ["runs"] sp_length_of) (G_is_within : Has P w K mg base 2 "is_within" ["value", "low", "high"] sp_is_within) (G_cut : Has P w K mg base 1 "cut" ["runs", "start", "length"] sp_cut) :
    Has P w K mg base 6 "part_of" ["sequence", "start", "length"] sp_part_of := by
  refine has_of D sc_part_of (fun _ _ _ _ _ _ us hl => match us, hl with | [_, _, _], _ => rfl) (fun vs H Q E h => ?_) (fun f cdv A outer s₀ H vs Q E hr h => ?_)
  · obtain ⟨a, rs, s, l, rfl, _⟩ := h
    rfl
  · obtain ⟨a, rs, s, l, rfl, hR, ok, h0, h1, h2, q⟩ := h
    refine ⟨_, (pss_cons (ps_set (i := 3) sc_part_of.nd rfl (by first | exact Or.inl rfl | exact Or.inr rfl) (pe_callH G_checked_runs (hr.mono (by omega)) (by rfl) (pa_cons (pv 0) pa_nil)))
    (pss_cons (ps_set (i := 4) sc_part_of.nd rfl (by first | exact Or.inl rfl | exact Or.inr rfl) (pe_callH G_length_of (hr.mono (by omega)) (by rfl) (pa_cons (pv 3) pa_nil)))
    (pss_cons (ps_if (pt_not (pt_val (pe_callH G_is_within (hr.mono (by omega)) (by rfl) (pa_cons (pv 1) (pa_cons pe_int (pa_cons (pv 4) pa_nil)))))) (pss_one ps_never) pss_nil)
    (pss_cons (ps_if (pt_not (pt_val (pe_callH G_is_within (hr.mono (by omega)) (by rfl) (pa_cons (pv 2) (pa_cons pe_int (pa_cons (pe_op op_sub (pv 4) (pv 1)) pa_nil)))))) (pss_one ps_never) pss_nil)
    (pss_one (ps_ret (pe_callH G_cut (hr.mono (by omega)) (by rfl) (pa_cons (pv 3) (pa_cons (pv 1) (pa_cons (pv 2) pa_nil)))))))))), ?_⟩
    refine ⟨_, rfl, a, rs, rfl, hR, ok, fun H1 p s1 np hp => ?_⟩
    have l4 : rs.length ≤ 1000 := by have := ok.1; omega
    refine ⟨_, rfl, p, rs, rfl, hp, l4, fun H2 s2 => ?_⟩
    refine ⟨_, rfl, _, rfl, s, 0, _, rfl, _, rfl, iteN ?_ ?_⟩
    · rw [decide_eq_true (by omega)]
      rfl
    refine ⟨_, rfl, _, rfl, _, rfl, _, _, rfl, rfl, l, 0, _, rfl, _, rfl, iteN ?_ ?_⟩
    · rw [decide_eq_true (by omega)]
      rfl
    exact ⟨_, rfl, _, rfl, _, rfl, p, rs, s, l, rfl, hp.same s2, l4, fun H3 p3 s3 n3 h3 => q H3 p3 (s1.trans (s2.trans s3)) ((s1.trans s2).free n3) h3⟩
/-! check_position: slots 0:runs 1:position -/
abbrev s_check_position : Stmt := topS 17
theorem sc_check_position : FnScope ["runs", "position"] ["runs", "position"] (defScope s_check_position) := ⟨rfl, rfl, rfl, by decide +kernel, rfl, by decide +kernel, by decide +kernel⟩
def sp_check_position : Sp := fun vs H Q _ => ∃ (a : Addr) (rs : List Run) (m : Int), vs = [.ref a, .int m] ∧ Runs H a rs ∧ rs.length ≤ 1000 ∧ 0 ≤ m ∧ m < lenR rs ∧ ∀ H', Same H H' → Q .non H'
theorem ok_check_position (D : Df K mg "check_position" s_check_position) (G_is_within : Has P w K mg base 2 "is_within" ["value", "low", "high"] sp_is_within) (G_length_of : Has P w K mg base 1 "length_of" ["runs"] sp_length_of) : Has P w K mg base 3 "check_position" ["runs", "position"] sp_check_position := by
  refine has_of D sc_check_position (fun _ _ _ _ _ _ us hl => match us, hl with | [_, _], _ => rfl) (fun vs H Q E h => ?_) (fun f cdv A outer s₀ H vs Q E hr h => ?_)
  · obtain ⟨a, rs, _, rfl, _⟩ := h
    rfl
  · obtain ⟨a, rs, m, rfl, hR, l4, h0, h1, q⟩ := h
    refine ⟨_, (pss_one (ps_if (pt_not (pt_val (pe_callH G_is_within (hr.mono (by omega)) (by rfl) (pa_cons (pv 1) (pa_cons pe_int (pa_cons (pe_op op_sub (pe_callH G_length_of (hr.mono (by omega)) (by rfl) (pa_cons (pv 0) pa_nil)) pe_int) pa_nil)))))) (pss_one ps_never) pss_nil)), ?_⟩
    refine ⟨_, rfl, _, rfl, a, rs, rfl, hR, l4, fun H2 s2 => ⟨_, _, rfl, rfl, m, 0, _, rfl, _, rfl, iteN ?_ (q H2 s2)⟩⟩
    rw [decide_eq_true (by omega)]
    rfl
end
end UP

set_option Elab.async false
set_option linter.all false
set_option maxRecDepth 100000
set_option maxHeartbeats 4000000
namespace UP
open PySem PySem.Spec PyProof.Rows L2
def DfD (K : PySem.W.Frag) (mg : Str → Option Value) (x : Str) (st : Stmt) (dvs : List V) : Prop := ∃ f fd, mg x = some (.ref f) ∧ FunD K x x (defArgs st) (defBody st) (defScope st) dvs [] f fd
/-- a def whose last parameter, kw, has the default None -/
def HasD (P : Program) (w : World) (K : PySem.W.Frag) (mg : Str → Option Value) (base : Heap) (k : Nat) (x : Str) (ps : List Str) (n : Nat) (kw : Str) (sp : Sp) : Prop :=
  ∃ f fd, mg x = some (.ref f) ∧ PySem.W.keepIn K (.ref f) = true ∧ Binds K fd ps [] ∧ (∃ ds, Vals [.non] ds ∧ Binds K fd ps ds) ∧ KBn K fd ps n [kw] (fun us ws => us ++ ws) (fun vs zs => vs ++ zs) ∧ FnOk P w K mg base CX0 k f fd ps sp
section
variable {P : Program} {w : World} {K : PySem.W.Frag} {mg : Str → Option Value} {base : Heap}
theorem HasD.has {k n : Nat} {x kw : Str} {ps : List Str} {sp : Sp} (h : HasD P w K mg base k x ps n kw sp) : Has P w K mg base k x ps sp := by
  obtain ⟨f, fd, g, kp, b, _, _, F⟩ := h
  exact ⟨f, fd, g, kp, b, F⟩
theorem has_ofD {x kw : Str} {st : Stmt} {ps N : List Str} {k n : Nat} {sp : Sp} (D : DfD K mg x st [.non]) (S : FnScope N ps (defScope st)) (hpn : ps.length = n + 1)
    (hb : ∀ (T : Addr) (kV doc pm : Value) (an : Option Addr) (cdv ct : Value) (us its : List Value), us.length = n + 1 → its.length = 1 →
      ∃ k, bindArgs (PySem.W.fnOf x x (defArgs st) (defBody st) (defScope st) (.ref T) kV doc pm an cdv ct) ⟨us, []⟩ = seqItems? (.ref T) >>= k ∧ k (some its.toArray) = pure (ps.zip us))
    (hb1 : ∀ (T : Addr) (kV doc pm : Value) (an : Option Addr) (cdv ct : Value) (us its : List Value), us.length = n → its.length = 1 →
      ∃ k, bindArgs (PySem.W.fnOf x x (defArgs st) (defBody st) (defScope st) (.ref T) kV doc pm an cdv ct) ⟨us, []⟩ = seqItems? (.ref T) >>= k ∧ k (some its.toArray) = pure (ps.zip (us ++ its)))
    (hb2 : ∀ (T : Addr) (kV doc pm : Value) (an : Option Addr) (cdv ct : Value) (us its : List Value) (v : Value), us.length = n → its.length = 1 →
      ∃ k, bindArgs (PySem.W.fnOf x x (defArgs st) (defBody st) (defScope st) (.ref T) kV doc pm an cdv ct) ⟨us, [(kw, v)]⟩ = seqItems? (.ref T) >>= k ∧ k (some its.toArray) = pure (ps.zip (us ++ [v])))
    (len : ∀ vs H Q E, sp vs H Q E → vs.length = ps.length)
    (body : ∀ (f : Addr) (cdv : Value) (A : Around) (outer : List Env) (s : Shared) (H : Hp) (vs : List V) (Q : VK) (E : XK), Room k (A.deeper (envOfC x (defScope st) s.heap.objs.size f cdv)) → sp vs H Q E →
      ∃ t, PSs (cxOf CX0 P w K mg base N x (defScope st) f cdv A outer s H E).nox (defBody st) t ∧ t { nx := fun _ H' => Q .non H', rt := Q } (start N vs) H) :
    HasD P w K mg base (k + 1) x ps n kw sp := by
  obtain ⟨f, fd, g, F⟩ := D
  have B0 : Binds K fd ps [] := by
    obtain ⟨ds, v, b⟩ := F.binds1 (n + 1) 1 (ps := ps) (by intro z; cases z) (by rw [hpn]; rfl) fun T kV doc pm an cdv ct us its h1 h2 => by
      obtain ⟨k, e1, e2⟩ := hb T kV doc pm an cdv ct us its h1 h2
      refine ⟨k, e1, ?_⟩
      have h3 : its.length ≤ 1 := Nat.le_of_eq h2
      rw [e2, List.drop_of_length_le h3, List.append_nil]
    cases v
    exact b
  have B1 : ∃ ds, Vals [V.non] ds ∧ Binds K fd ps ds := by
    obtain ⟨ds, v, b⟩ := F.binds1 n 0 (ps := ps) (by intro z; cases z) (by rw [hpn]; rfl) fun T kV doc pm an cdv ct us its h1 h2 => by
      obtain ⟨k, e1, e2⟩ := hb1 T kV doc pm an cdv ct us its h1 h2
      exact ⟨k, e1, by rw [e2, List.drop_zero]⟩
    exact ⟨ds, v, b⟩
  have B2 : KBn K fd ps n [kw] (fun us ws => us ++ ws) (fun vs zs => vs ++ zs) := by
    refine ⟨fun s us ws X l1 l2 => ?_, fun r1 r2 => r1.append r2⟩
    obtain ⟨oc, od, dV, kV, doc, pm, an, cdv, ct, osl, rfl, lk, hcd, hD, _⟩ := F.ex
    rcases hD with ⟨z, _⟩ | ⟨_, T, o, its, m, rfl, lT, oT, rT⟩
    · cases z
    · match ws, l2 with
      | [v], _ =>
        obtain ⟨k, e1, e2⟩ := hb2 T kV doc pm an cdv ct us its v l1 rT.length.symm
        refine BindsTo.of_looks fun M => ?_
        show PySem.W.Looks M s.heap (bindArgs _ ⟨us, [(kw, v)]⟩) _
        rw [e1]
        exact looks_items X lT oT (.of_pure e2)
  refine ⟨f, fd, g, F.kp, B0, B1, B2, F.ok S len fun cdv A outer s H vs Q E hr h => ?_⟩
  obtain ⟨t, p, q⟩ := body f cdv A outer s H vs Q E hr h
  exact ⟨t, p.nox, q⟩
end
section
variable {X : Cx}
/-- the default taken -/
theorem pe_callDH {k n : Nat} {x kw : Str} {ps : List Str} {sp : Sp} {p pos : Pos} {e : Expr} {es : List Expr} {t : TA} (G : HasD X.prog X.w X.K X.mg X.base k x ps n kw sp) (hr : Room k X.A) (hg : Gl X x) (ha : PA X (e :: es) t)
    (hdb : (x == ("__debug__" : Str)) = false := by decide) (he : starEach (e :: es) X.env = (false, eval e X.env) :: starEach es X.env := by rfl) (hpl : (backTo pos (starEach es X.env)).any (·.1) = false := by rfl) :
    PE X (.Call (.Name x p) (e :: es) [] pos) (tCall sp [.non] E0 t) := by
  obtain ⟨f, fd, g, kp, _, ⟨ds, v, b⟩, _, F⟩ := G
  exact pe_call F hr hg g kp b v pass0 ha hdb he hpl
/-- the last one by its name -/
theorem pe_callNH {k n : Nat} {x kw : Str} {ps : List Str} {sp : Sp} {p pos : Pos} {e : Expr} {es : List Expr} {kws : List Keyword} {t tk : TA} (G : HasD X.prog X.w X.K X.mg X.base k x ps n kw sp) (hr : Room k X.A) (hg : Gl X x) (ha : PA X (e :: es) t) (hk : PK X kws tk)
    (h1 : (backToKw pos (keywordEach kws X.env)).all (·.1.isSome) = true := by rfl) (h2 : (backToKw pos (keywordEach kws X.env)).filterMap (·.1) = [kw] := by rfl) (hdb : (x == ("__debug__" : Str)) = false := by decide)
    (he : starEach (e :: es) X.env = (false, eval e X.env) :: starEach es X.env := by rfl) (hpl : ((backTo pos (starEach (e :: es) X.env)).any (·.1) || (backToKw pos (keywordEach kws X.env)).any (·.1.isNone)) = false := by rfl) :
    PE X (.Call (.Name x p) (e :: es) kws pos) (tCallN n 1 sp (fun vs zs => vs ++ zs) E0 t tk) := by
  obtain ⟨f, fd, g, kp, _, _, b, F⟩ := G
  exact pe_callN F hr hg g kp b pass0 ha hk h1 h2 hdb he hpl
end
section
variable {P : Program} {w : World} {K : PySem.W.Frag} {mg : Str → Option Value} {base : Heap}
theorem SeqOk.pos {rs : List Run} (h : SeqOk rs) : ∀ r ∈ rs, 1 ≤ r.2 := fun r m => (h.2.1 r m).2.1
theorem pieceR_pos {b s e : Int} {r x : Run} (h : x ∈ pieceR b s e r) : 1 ≤ x.2 := by
  unfold pieceR at h
  split at h
  · rename_i z
    simp only [List.mem_singleton] at h
    subst h
    show 1 ≤ sizeR b s e r.2
    omega
  · cases h
theorem cutR_pos {s e : Int} : ∀ {l : List Run} {b : Int}, ∀ x ∈ cutR s e b l, 1 ≤ x.2
  | [], _, x, h => by cases h
  | r :: t, b, x, h => by
    rcases List.mem_append.mp (show x ∈ pieceR b s e r ++ cutR s e (b + r.2) t from h) with h | h
    · exact pieceR_pos h
    · exact cutR_pos x h
end
end UP

set_option Elab.async false
set_option linter.all false
set_option maxRecDepth 100000
set_option maxHeartbeats 4000000
namespace UP
open PySem PySem.Spec PyProof.Rows L2
section
variable {P : Program} {w : World} {K : PySem.W.Frag} {mg : Str → Option Value} {base : Heap}
/-! _law_draw: slots 0:spring 1:many 2:mix 3:found -/
abbrev s_law_draw : Stmt := topS 26
theorem sc_law_draw : FnScope ["spring", "many", "mix", "found"] ["spring", "many"] (defScope s_law_draw) := ⟨rfl, rfl, rfl, by decide +kernel, rfl, by decide +kernel, by decide +kernel⟩
def sp_law_draw : Sp := fun vs H Q _ => ∃ (sp : Addr) (m : Int), vs = [.ref sp, .int m] ∧ Spr H sp ∧ 1 ≤ m ∧ m.natAbs < 2 ^ 8000 ∧ ∀ H' r, But sp H H' → Spr H' sp → 0 ≤ r → r < m → Q (.int r) H'
theorem at30 {α : Type} {x y z : α} : atI [x, y, z] 0 = some x := rfl
theorem at31 {α : Type} {x y z : α} : atI [x, y, z] 1 = some y := rfl
theorem at32 {α : Type} {x y z : α} : atI [x, y, z] 2 = some z := rfl
theorem fdiv_le {d m : Int} (h0 : 0 ≤ d) (h1 : 1 ≤ m) : 0 ≤ d / m ∧ d / m ≤ d := by
  refine ⟨Int.ediv_nonneg h0 (by omega), ?_⟩
  have h := Int.ediv_le_self m h0
  exact h
theorem ok_law_draw (D : Df K mg "_law_draw" s_law_draw) (T : Tx mg) : Has P w K mg base 1 "_law_draw" ["spring", "many"] sp_law_draw := by
  refine has_of D sc_law_draw (fun _ _ _ _ _ _ us hl => match us, hl with | [_, _], _ => rfl) (fun vs H Q E h => ?_) (fun f cdv A outer s₀ H vs Q E hr h => ?_)
  · obtain ⟨a, rs, rfl, _⟩ := h
    rfl
  · obtain ⟨sp, m, rfl, ⟨d, s, c, hs, d0, d1, s0, s1⟩, m1, m2, q⟩ := h
    refine ⟨_, (pss_cons (ps_if (pt_cmpR op_gt (pe_ix ix_list (pv 0) pe_int (fun _ _ => rfl)) pe_int (nomark _)) (pss_cons (ps_set (i := 3) sc_law_draw.nd rfl (by first | exact Or.inl rfl | exact Or.inr rfl) (pe_op op_mod (pe_ix ix_list (pv 0) pe_int (fun _ _ => rfl)) (pv 1)))
    (pss_cons (ps_asg (pe_op op_fdivW (pe_ix ix_list (pv 0) pe_int (fun _ _ => rfl)) (pv 1)) (pg_sub (pv 0) pe_int set_list))
    (pss_one (ps_ret (pv 3))))) pss_nil)
    (pss_cons (ps_asg (pe_op op_add (pe_ix ix_list (pv 0) pe_int (fun _ _ => rfl)) pe_int) (pg_sub (pv 0) pe_int set_list))
    (pss_cons (ps_set (i := 2) sc_law_draw.nd rfl (by first | exact Or.inl rfl | exact Or.inr rfl) (pe_op op_mod (pe_op op_mul (pe_ix ix_list (pv 0) pe_int (fun _ _ => rfl)) (pe_ix ix_list (pv 0) pe_int (fun _ _ => rfl))) pe_int))
    (pss_cons (ps_asg (pe_op op_mod (pe_op op_add (pe_op op_add (pv 2) (pe_op op_mul (pe_op op_mul pe_int (pe_ix ix_list (pv 0) pe_int (fun _ _ => rfl))) (pe_ix ix_list (pv 0) pe_int (fun _ _ => rfl)))) pe_int) pe_int) (pg_sub (pv 0) pe_int set_list))
    (pss_one (ps_ret (pe_op op_mod (pe_op op_fdiv (pe_ix ix_list (pv 0) pe_int (fun _ _ => rfl)) pe_int) (pv 1)))))))), ?_⟩
    refine ⟨_, rfl, sp, _, 0, _, rfl, rfl, .of hs, at30, _, _, rfl, rfl, _, rfl, ?_⟩
    by_cases e : 0 < d
    · refine iteP (decide_eq_true e) ?_
      refine ⟨_, rfl, sp, _, 0, _, rfl, rfl, .of hs, at30, _, rfl, _, _, rfl, rfl, (by omega), ?_⟩
      refine ⟨_, rfl, sp, _, 0, _, rfl, rfl, .of hs, at30, _, rfl, _, _, rfl, rfl, wide_div (by omega) m2 (by decide) (by decide), ?_⟩
      refine ⟨_, rfl, sp, _, 0, 0, rfl, rfl, hs, rfl, _, rfl, q _ _ but_upd ⟨d / m, s, c, upd_same, ?_, ?_, s0, s1⟩ (Int.emod_nonneg _ (by omega)) (Int.emod_lt_of_pos _ (by omega))⟩
      · exact (fdiv_le d0 m1).1
      · have := fdiv_le d0 m1
        exact Nat.lt_of_le_of_lt (by omega) d1
    · refine iteN (decide_eq_false e) ?_
      refine ⟨_, rfl, sp, _, 2, _, rfl, rfl, .of hs, at32, _, _, rfl, rfl, ?_⟩
      refine ⟨_, rfl, sp, _, 2, 2, rfl, rfl, hs, rfl, ?_⟩
      have h2 : (upd H sp (.lst [.int d, .int s, .int (c + 1)])) sp = some (.lst [.int d, .int s, .int (c + 1)]) := upd_same
      refine ⟨_, rfl, sp, _, 1, _, rfl, rfl, .of h2, at31, _, rfl, sp, _, 1, _, rfl, rfl, .of h2, at31, _, _, rfl, rfl, .inl ⟨by omega, by omega⟩, _, _, rfl, rfl, (by show (0 : Int) < 2305843009213693951; decide), ?_⟩
      refine ⟨_, rfl, _, rfl, sp, _, 2, _, rfl, rfl, .of h2, at32, _, _, rfl, rfl, .inl ⟨by decide, by decide⟩, _, rfl, sp, _, 1, _, rfl, rfl, .of h2, at31, _, _, rfl, rfl, .inr ⟨by omega, by omega⟩, _, _, rfl, rfl, _, _, rfl, rfl, _, _, rfl, rfl, (by show (0 : Int) < 2305843009213693951; decide), ?_⟩
      refine ⟨_, rfl, sp, _, 1, 1, rfl, rfl, h2, rfl, ?_⟩
      have h3 : ∀ z : Int, (upd (upd H sp (.lst [.int d, .int s, .int (c + 1)])) sp (.lst [.int d, .int z, .int (c + 1)])) sp = some (.lst [.int d, .int z, .int (c + 1)]) := fun z => upd_same
      refine ⟨_, rfl, sp, _, 1, _, rfl, rfl, .of (h3 _), at31, _, _, rfl, rfl, ⟨by decide, by decide⟩, _, rfl, _, _, rfl, rfl, (by omega), ?_⟩
      refine q _ _ (but_upd.trans but_upd) ⟨d, _, _, h3 _, d0, d1, Int.emod_nonneg _ (by decide), Int.emod_lt_of_pos _ (by decide)⟩ (Int.emod_nonneg _ (by omega)) (Int.emod_lt_of_pos _ (by omega))
end
end UP

set_option Elab.async false
set_option linter.all false
set_option maxRecDepth 100000
set_option maxHeartbeats 4000000
namespace UP
open PySem PySem.Spec PyProof.Rows L2
/-! ### data -/
def dRun (r : Run) : PyData := .tuple [.str r.1, .int r.2]
theorem dp_run {K : PySem.W.Frag} {H : Hp} {v : V} {r : Run} (h : RunV H v r) : Dp K H v (dRun r) := by
  obtain ⟨t, rfl, h⟩ := h
  exact .tup (.of h) (.cons (.str _) (.cons (.int _) .nil))
theorem dp_all {K : PySem.W.Frag} {H : Hp} : ∀ {xs : List V} {rs : List Run}, Paired (RunV H) xs rs → DpAll K H xs (rs.map dRun)
  | _, _, .nil => .nil
  | _, _, .cons h t => .cons (dp_run h) (dp_all t)
theorem KindOk.str {s : Str} (h : KindOk s) : PyData.strOk s = true := by
  unfold PyData.strOk
  rw [Array.all_eq_true']
  intro c hc
  have := h.2.2 c (by simpa using hc)
  exact decide_eq_true (by omega)
theorem can_run {r : Run} (h : KindOk r.1) : (dRun r).canLay0 = true := by
  simp [dRun, PyData.canLay0, PyData.canLayAll0, h.str]
theorem can_runs : ∀ {rs : List Run}, (∀ r ∈ rs, KindOk r.1) → PyData.canLayAll0 (rs.map dRun) = true
  | [], _ => by simp [PyData.canLayAll0]
  | r :: t, h => by
    rw [List.map_cons, PyData.canLayAll0, can_run (h r (List.mem_cons_self ..)), can_runs fun x hx => h x (List.mem_cons_of_mem _ hx)]
    rfl
theorem depth_run (r : Run) : (dRun r).depth ≤ 2 := by
  simp [dRun, PyData.depth, PyData.depthAll]
theorem depth_runs : ∀ (rs : List Run), PyData.depthAll (rs.map dRun) ≤ 2
  | [] => by simp [PyData.depthAll]
  | r :: t => by
    rw [List.map_cons, PyData.depthAll]
    exact Nat.max_le.mpr ⟨depth_run r, depth_runs t⟩
theorem shaped_runs {rs : List Run} (h : ∀ r ∈ rs, KindOk r.1) : SeqAt.shaped (.list (rs.map dRun)) = true := by
  unfold SeqAt.shaped
  rw [PyData.canLay0, can_runs h, PyData.depth]
  have := depth_runs rs
  exact decide_eq_true (by omega)
theorem shaped_run {r : Run} (h : KindOk r.1) : SeqAt.shaped (dRun r) = true := by
  unfold SeqAt.shaped
  rw [can_run h]
  have := depth_run r
  exact decide_eq_true (by omega)
theorem shaped_nil : SeqAt.shaped (.list []) = true := by decide
theorem eqv_nil (rs : List Run) : PyData.eqv (.list (rs.map dRun)) (.list []) = rs.isEmpty := by
  cases rs with
  | nil => simp [PyData.eqv, PyData.eqvAll]
  | cons r t => simp [PyData.eqv, PyData.eqvAll]
theorem sb {sp : Addr} {H H' : Hp} (h : Same H H') : But sp H H' := fun b o _ e => h b o e
theorem But.free {sp : Addr} {H H' : Hp} (b : But sp H H') (z : Spr H' sp) {p : Addr} (h : H' p = none) : H p = none := by
  by_cases e : p = sp
  · subst e
    obtain ⟨_, _, _, h1, _⟩ := z
    rw [h1] at h
    cases h
  · cases q : H p with
    | none => rfl
    | some o =>
      rw [b p o e q] at h
      cases h
theorem Spr.ne {sp p : Addr} {H : Hp} (z : Spr H sp) (h : H p = none) : p ≠ sp := by
  obtain ⟨_, _, _, h1, _⟩ := z
  exact fun e => by rw [e, h1] at h; cases h
instance (s : Str) : Decidable (KindOk s) := by
  unfold KindOk
  infer_instance
section
variable {P : Program} {w : World} {K : PySem.W.Frag} {mg : Str → Option Value} {base : Heap}
/-! _law_spring: slots 0:script 1:digits 2:seed 3:cell -/
abbrev s_law_spring : Stmt := topS 25
theorem sc_law_spring : FnScope ["script", "digits", "seed", "cell"] ["script"] (defScope s_law_spring) := ⟨rfl, rfl, rfl, by decide +kernel, rfl, by decide +kernel, by decide +kernel⟩
def sp_law_spring (K : PySem.W.Frag) : Sp := fun vs H Q _ => ∃ (a : Addr) (ns : List Int), vs = [.ref a] ∧ SqL K H a (ns.map V.int) ∧ ns.length ≤ 63 ∧ ∀ H' p, Same H H' → H p = none → Spr H' p → Q (.ref p) H'
theorem pow60 : (10 : Int) ^ ((60 : Int).toNat) = 1000000000000000000000000000000000000000000000000000000000000 := by decide +kernel
theorem pow200 (i : Nat) : 2 ^ (200 * (i + 1)) = 2 ^ (200 * i) * 1606938044258990275541962092341162602522202993782792835301376 := by
  rw [Nat.mul_add, Nat.pow_add]
theorem spring_step {d x : Int} {i : Nat} (h0 : 0 ≤ d) (h1 : d.natAbs < 2 ^ (200 * i)) : 0 ≤ d * (10 : Int) ^ ((60 : Int).toNat) + x % (10 : Int) ^ ((60 : Int).toNat) ∧ (d * (10 : Int) ^ ((60 : Int).toNat) + x % (10 : Int) ^ ((60 : Int).toNat)).natAbs < 2 ^ (200 * (i + 1)) := by
  rw [pow60, pow200]
  generalize 2 ^ (200 * i) = B at h1 ⊢
  have m0 := Int.emod_nonneg x (show (1000000000000000000000000000000000000000000000000000000000000 : Int) ≠ 0 by decide)
  have m1 := Int.emod_lt_of_pos x (show (0 : Int) < 1000000000000000000000000000000000000000000000000000000000000 by decide)
  generalize x % 1000000000000000000000000000000000000000000000000000000000000 = y at m0 m1 ⊢
  omega
theorem ok_law_spring (D : Df K mg "_law_spring" s_law_spring) (T : Tx mg) : Has P w K mg base 1 "_law_spring" ["script"] (sp_law_spring K) := by
  refine has_of D sc_law_spring (fun _ _ _ _ _ _ us hl => match us, hl with | [_], _ => rfl) (fun vs H Q E h => ?_) (fun f cdv A outer s₀ H vs Q E hr h => ?_)
  · obtain ⟨a, rs, rfl, _⟩ := h
    rfl
  · obtain ⟨a, ns, rfl, hS, l63, q⟩ := h
    refine ⟨_, (pss_cons (ps_set (i := 1) sc_law_spring.nd rfl (by first | exact Or.inl rfl | exact Or.inr rfl) pe_int)
    (pss_cons (ps_set (i := 2) sc_law_spring.nd rfl (by first | exact Or.inl rfl | exact Or.inr rfl) pe_int)
    (pss_cons (ps_for PassesOwn.never rfl (pi_list (pe_slice sl_list (pv 0) po_none (po_some pe_int))) (pg_name (i := 3) sc_law_spring.nd rfl (by first | exact Or.inl rfl | exact Or.inr rfl))
      (C8.pss_cut (ps_if (pt_cmpR op_ge (pe_callB call_abs (by rfl) T.n_abs (by decide +kernel) (pa_cons (pv 3) pa_nil)) (pe_op op_pow pe_int pe_int) (nomark _)) (pss_one (ps_set (i := 1) sc_law_spring.nd rfl (by first | exact Or.inl rfl | exact Or.inr rfl) (pe_op op_add (pe_op op_mulW (pv 1) (pe_op op_pow pe_int pe_int)) (pe_op op_mod (pe_callB call_abs (by rfl) T.n_abs (by decide +kernel) (pa_cons (pv 3) pa_nil)) (pe_op op_pow pe_int pe_int))))) pss_nil)
    (pss_one (ps_set (i := 2) sc_law_spring.nd rfl (by first | exact Or.inl rfl | exact Or.inr rfl) (pe_op op_mod (pe_op op_add (pe_op op_add (pe_op op_mul (pv 2) pe_int) (pe_op op_mod (pv 3) pe_int)) pe_int) pe_int)))))
    (pss_one (ps_ret (pe_lst (pa_cons (pv 1) (pa_cons (pv 2) (pa_cons pe_int pa_nil))))))))), ?_⟩
    refine ⟨_, rfl, _, rfl, a, _, rfl, hS, fun c nc => ?_⟩
    obtain ⟨ms, em, lm⟩ : ∃ ms : List Int, cutV (ns.map V.int) none (some 63) = ms.map V.int ∧ ms.length ≤ 63 := by
      refine ⟨_, by unfold cutV; rw [← List.map_drop, ← List.map_take], ?_⟩
      rw [List.length_take, List.length_drop]
      omega
    rw [em]
    have sc : Same H (upd H c (.lst (ms.map V.int))) := same_upd nc
    refine ⟨c, rfl, ⟨_, .of upd_same⟩, for_list (K := K) (a := c) (xs := ms.map V.int) (fun i σ H' => ∃ d s y3, σ = [some (.ref a), some (.int d), some (.int s), y3] ∧ H' = upd H c (.lst (ms.map V.int)) ∧ 0 ≤ d ∧ d.natAbs < 2 ^ (200 * i) ∧ 0 ≤ s ∧ s < 2305843009213693951)
      ⟨0, 88651, none, rfl, rfl, by decide, by decide, by decide, by decide⟩ (fun i σ H' _ hP => ?_) (fun i x σ H4 ex hP => ?_) (fun σ H4 hP => ?_)⟩
    · obtain ⟨_, _, _, _, rfl, _⟩ := hP
      exact .of upd_same
    · obtain ⟨d, s, y3, rfl, rfl, d0, d1, s0, s1⟩ := hP
      rw [List.getElem?_map] at ex
      cases e : ms[i]? with
      | none =>
        rw [e] at ex
        cases ex
      | some n =>
        rw [e] at ex
        have ex := Option.some.inj ex
        subst ex
        refine ⟨fun σ' H' => ∃ d', σ' = [some (.ref a), some (.int d'), some (.int s), some (.int n)] ∧ H' = upd H c (.lst (ms.map V.int)) ∧ 0 ≤ d' ∧ d'.natAbs < 2 ^ (200 * (i + 1)), ?_, fun σ' H5 hM => ?_⟩
        · refine ⟨_, rfl, n, rfl, _, _, rfl, rfl, ⟨by decide, by decide, by decide⟩, _, _, rfl, rfl, _, rfl, ite2 (fun _ => ?_) (fun _ => ?_)⟩
          · refine ⟨_, rfl, _, _, rfl, rfl, ⟨by decide, by decide, by decide⟩, _, _, rfl, rfl, wide_mul (a := 200 * i + 1) (b := 200) (Nat.lt_of_lt_of_le d1 (Nat.pow_le_pow_right (by decide) (by omega))) (by rw [pow60]; decide) (by omega) (by decide) ?_, ?_⟩
            · have : i < ms.length := (List.getElem?_eq_some_iff.mp e).1
              omega
            · refine ⟨_, rfl, n, rfl, _, _, rfl, rfl, ⟨by decide, by decide, by decide⟩, _, _, rfl, rfl, (by show (0 : Int) < 10 ^ ((60 : Int).toNat); rw [pow60]; decide), _, _, rfl, rfl, ?_⟩
              exact ⟨_, rfl, rfl, (spring_step d0 d1).1, (spring_step d0 d1).2⟩
          · refine ⟨d, rfl, rfl, d0, Nat.lt_of_lt_of_le d1 (Nat.pow_le_pow_right (by decide) (by omega))⟩
        · obtain ⟨d', rfl, rfl, d0', d1'⟩ := hM
          refine ⟨_, rfl, _, _, rfl, rfl, .inr ⟨by decide, by decide⟩, _, rfl, _, _, rfl, rfl, (by show (0 : Int) < 2305843009213693921; decide), _, _, rfl, rfl, _, _, rfl, rfl, _, _, rfl, rfl, (by show (0 : Int) < 2305843009213693951; decide), ?_⟩
          exact ⟨d', _, _, rfl, rfl, d0', d1', Int.emod_nonneg _ (by decide), Int.emod_lt_of_pos _ (by decide)⟩
    · obtain ⟨d, s, y3, rfl, rfl, d0, d1, s0, s1⟩ := hP
      refine ⟨_, rfl, _, rfl, (by show 3 ≤ sizeLine; decide), fun p np => q _ p (sc.trans (same_upd np)) (sc.free np) ⟨d, s, 0, upd_same, d0, Nat.lt_of_lt_of_le d1 (Nat.pow_le_pow_right (by decide) ?_), s0, s1⟩⟩
      rw [List.length_map]
      omega
/-! _law_state: slots 0:spring 1:longest 2:kind -/
abbrev s_law_state : Stmt := topS 29
theorem sc_law_state : FnScope ["spring", "longest", "kind"] ["spring", "longest"] (defScope s_law_state) := ⟨rfl, rfl, rfl, by decide +kernel, rfl, by decide +kernel, by decide +kernel⟩
def sp_law_state : Sp := fun vs H Q _ => ∃ (sp : Addr) (m : Int), vs = [.ref sp, .int m] ∧ Spr H sp ∧ 1 ≤ m ∧ m.natAbs < 2 ^ 8000 ∧ ∀ H' v st, But sp H H' → Spr H' sp → StV H' v st → StOk st → (∀ r, st = some r → r.2 ≤ m) → Q v H'
def nine : List Str := ["a", "b", "c", "ab", "zz", "abcdefgh", "aa", "z", "other"]
theorem nine_ok : ∀ s ∈ nine, KindOk s := by decide +kernel
theorem atI_of {α : Type} {l : List α} {i : Int} {x : α} (h0 : 0 ≤ i) (h : l[i.toNat]? = some x) : atI l i = some x := by
  have e : i = (i.toNat : Int) := by omega
  rw [e]
  exact atI_nat h
theorem ok_law_state (D : Df K mg "_law_state" s_law_state) (T : Tx mg) (G_law_draw : Has P w K mg base 1 "_law_draw" ["spring", "many"] sp_law_draw) : Has P w K mg base 2 "_law_state" ["spring", "longest"] sp_law_state := by
  refine has_of D sc_law_state (fun _ _ _ _ _ _ us hl => match us, hl with | [_, _], _ => rfl) (fun vs H Q E h => ?_) (fun f cdv A outer s₀ H vs Q E hr h => ?_)
  · obtain ⟨a, rs, rfl, _⟩ := h
    rfl
  · obtain ⟨sp, m, rfl, hz, m1, m2, q⟩ := h
    refine ⟨_, (pss_cons (ps_set (i := 2) sc_law_state.nd rfl (by first | exact Or.inl rfl | exact Or.inr rfl) (pe_ix ix_list (pe_lst (pa_cons pe_str (pa_cons pe_str (pa_cons pe_str (pa_cons pe_str (pa_cons pe_str (pa_cons pe_str (pa_cons pe_str (pa_cons pe_str (pa_cons pe_str pa_nil)))))))))) (pe_callH G_law_draw (hr.mono (by omega)) (by rfl) (pa_cons (pv 0) (pa_cons pe_int pa_nil))) (fun _ _ => rfl)))
    (pss_one (ps_ret (pe_ifExp (pt_cmpR op_eq (pe_callH G_law_draw (hr.mono (by omega)) (by rfl) (pa_cons (pv 0) (pa_cons pe_int pa_nil))) pe_int (nomark _)) pe_non (pe_tup (pa_cons (pv 2) (pa_cons (pe_op op_add pe_int (pe_callH G_law_draw (hr.mono (by omega)) (by rfl) (pa_cons (pv 0) (pa_cons (pv 1) pa_nil)))) pa_nil))))))), ?_⟩
    refine ⟨(by show 9 ≤ sizeLine; decide), fun l nl => ?_⟩
    have zl : Spr (upd H l (.lst (nine.map V.str))) sp := hz.same (same_upd nl)
    refine ⟨_, rfl, sp, 9, rfl, zl, by decide, by decide, fun H1 r b1 z1 r0 r1 => ?_⟩
    have nl2 : l ≠ sp := Spr.ne hz nl
    have hl : H1 l = some (.lst (nine.map V.str)) := b1 _ _ nl2 upd_same
    have hr9 : r.toNat < nine.length := by
      show r.toNat < 9
      omega
    have ek : (nine.map V.str)[r.toNat]? = some (.str nine[r.toNat]) := by
      rw [List.getElem?_map, List.getElem?_eq_getElem hr9]
      rfl
    have kk : KindOk nine[r.toNat] := nine_ok _ (List.getElem_mem hr9)
    generalize nine[r.toNat] = kd at ek kk
    refine ⟨l, _, r, _, rfl, rfl, .of hl, atI_of r0 ek, ?_⟩
    have bA : But sp H H1 := (sb (same_upd nl)).trans b1
    refine ⟨_, rfl, sp, 3, rfl, z1, by decide, by decide, fun H2 r2 b2 z2 r20 r21 => ⟨rfl, _, rfl, ?_⟩⟩
    by_cases e : r2 = 0
    · subst e
      exact iteP (decide_eq_true rfl) (q H2 _ none (bA.trans b2) z2 rfl (fun r h => by cases h) (fun r h => by cases h))
    · refine iteN (decide_eq_false fun z => e (V.int.inj z)) ?_
      refine ⟨_, rfl, _, rfl, _, rfl, sp, m, rfl, z2, m1, m2, fun H3 r3 b3 z3 r30 r31 => ⟨_, _, rfl, rfl, (by show 2 ≤ sizeLine; decide), fun t nt => ?_⟩⟩
      refine q _ _ (some (kd, 1 + r3)) ((bA.trans (b2.trans b3)).trans (sb (same_upd nt))) (z3.same (same_upd nt)) ⟨t, rfl, upd_same⟩ (fun r h => ?_) (fun r h => ?_)
      · cases h
        exact ⟨kk, by show 1 ≤ 1 + r3; omega⟩
      · cases h
        show 1 + r3 ≤ m
        omega
end
end UP

set_option Elab.async false
set_option linter.all false
set_option maxRecDepth 100000
set_option maxHeartbeats 4000000
namespace UP
open PySem PySem.Spec PyProof.Rows L2
theorem pe_bmK {X : Cx} {K : PySem.W.Frag} {e : Expr} {c : String} {r : V → List V → Hp → VK → Prop} {to : TE} {t : TA} (h : X.K = K) (p : PE X e (tBM X.K c r to t)) : PE X e (tBM K c r to t) := h ▸ p
theorem if_by {c : TT} {t u : TS} {D : Ends} {σ : L2.St} {H : Hp} (R : Bool → Hp → Prop) (h : ∀ Q' : Bool → Hp → Prop, (∀ b H', R b H' → Q' b H') → c σ H Q') (ht : ∀ H', R true H' → t D σ H') (hu : ∀ H', R false H' → u D σ H') : tIfS c t u D σ H := by
  refine h _ fun b H' r => ?_
  cases b with
  | true => exact iteT (ht H' r)
  | false => exact iteF (hu H' r)
theorem erase_map {α β : Type} (f : α → β) : ∀ (l : List α) (i : Nat), (l.map f).eraseIdx i = (l.eraseIdx i).map f
  | [], _ => rfl
  | x :: t, 0 => rfl
  | x :: t, i + 1 => by
    simp only [List.map_cons, List.eraseIdx_cons_succ]
    rw [erase_map f t i]
def eight : List Str := ["a", "b", "c", "ab", "zz", "abcdefgh", "aa", "z"]
theorem eight_ok : ∀ s ∈ eight, KindOk s := by decide +kernel
theorem alt_snoc {l : List Run} {x : Run} (h : Alt l) (k : ∀ y, l[l.length - 1]? = some y → y.1 ≠ x.1) : Alt (l ++ [x]) := by
  intro i a b ha hb
  by_cases h1 : i + 1 < l.length
  · rw [List.getElem?_append_left (by omega)] at ha
    rw [List.getElem?_append_left h1] at hb
    exact h i a b ha hb
  · by_cases h2 : i + 1 = l.length
    · rw [List.getElem?_append_left (by omega)] at ha
      rw [List.getElem?_append_right (by omega), h2, Nat.sub_self] at hb
      cases hb
      rw [show i = l.length - 1 by omega] at ha
      exact k a ha
    · rw [List.getElem?_append_right (by omega)] at hb
      rw [List.getElem?_eq_none (by simp; omega)] at hb
      cases hb
theorem pow62 {x : Int} (h0 : 0 ≤ x) (h1 : x ≤ 1000000) : -(2 ^ 62) ≤ x ∧ x < 2 ^ 62 := by omega
theorem wide8 {m : Int} (h0 : 0 ≤ m) (h1 : m ≤ 1000000000000000000000000000000000000000000000000000000000000) : m.natAbs < 2 ^ 8000 :=
  Nat.lt_of_lt_of_le (show m.natAbs < 2 ^ 256 by omega) (Nat.pow_le_pow_right (by decide) (by decide))
section
variable {P : Program} {w : World} {K : PySem.W.Frag} {mg : Str → Option Value} {base : Heap}
/-! _law_sequence: slots 0:spring 1:most 2:longest 3:pool 4:kinds 5:found 6:k 7:kind 8:count -/
abbrev s_law_sequence : Stmt := topS 28
theorem sc_law_sequence : FnScope ["spring", "most", "longest", "pool", "kinds", "found", "k", "kind", "count"] ["spring", "most", "longest"] (defScope s_law_sequence) := ⟨rfl, rfl, rfl, by decide +kernel, rfl, by decide +kernel, by decide +kernel⟩
def sp_law_sequence : Sp := fun vs H Q _ => ∃ (sp : Addr) (m g : Int), vs = [.ref sp, .int m, .int g] ∧ Spr H sp ∧ 0 ≤ m ∧ m ≤ 400 ∧ 1 ≤ g ∧ g ≤ 1000000000000000000000000000000 ∧ ∀ H' p rs, But sp H H' → Spr H' sp → H p = none → Runs H' p rs → SeqOk rs → (rs.length : Int) ≤ m → (∀ r ∈ rs, r.2 ≤ g) → Q (.ref p) H'
theorem ok_law_sequence (D : Df K mg "_law_sequence" s_law_sequence) (T : Tx mg) (G_law_draw : Has P w K mg base 1 "_law_draw" ["spring", "many"] sp_law_draw) : Has P w K mg base 2 "_law_sequence" ["spring", "most", "longest"] sp_law_sequence := by
  refine has_of D sc_law_sequence (fun _ _ _ _ _ _ us hl => match us, hl with | [_, _, _], _ => rfl) (fun vs H Q E h => ?_) (fun f cdv A outer s₀ H vs Q E hr h => ?_)
  · obtain ⟨_, _, _, rfl, _⟩ := h
    rfl
  · obtain ⟨sp, m, g, rfl, hz, m0, m4, g1, g2, q⟩ := h
    refine ⟨_, (pss_cons (ps_set (i := 3) sc_law_sequence.nd rfl (by first | exact Or.inl rfl | exact Or.inr rfl) (pe_lst (pa_cons pe_str (pa_cons pe_str (pa_cons pe_str (pa_cons pe_str (pa_cons pe_str (pa_cons pe_str (pa_cons pe_str (pa_cons pe_str pa_nil))))))))))
    (pss_cons (ps_setLc (i := 4) (own := [("k", 6)]) rfl sc_law_sequence.nd rfl rfl (sw_true rfl rfl rfl (by decide +kernel)) (pi_range1 (by rfl) T.n_range (pa_cons (pe_op op_add pe_int (pe_callH G_law_draw (hr.mono (by omega)) (by rfl) (pa_cons (pv 0) (pa_cons pe_int pa_nil)))) pa_nil)) (blkOk_by (N := ["spring", "most", "longest", "pool", "kinds", "found", "k", "kind", "count"]) (sc := defScope s_law_sequence) (by decide +kernel)) (fun _ _ _ _ _ => (pg_name (i := 6) sc_law_sequence.nd rfl (by first | exact Or.inl rfl | exact Or.inr rfl))) (fun _ _ _ _ _ => pts_nil) (fun _ _ _ _ _ => (pe_bmK (K := K) rfl (pe_bm PySem.F.plainAttrs_list PySem.F.slot_list_pop PySem.F.type_list_pop mt_popAt (pv 3) (pa_cons (pe_callH G_law_draw (hr.mono (by omega)) (by rfl) (pa_cons (pv 0) (pa_cons (pe_callB (call_len_seqK (K := K) rfl) (by rfl) T.n_len (by decide +kernel) (pa_cons (pv 3) pa_nil)) pa_nil))) pa_nil)))))
    (pss_cons (ps_set (i := 5) sc_law_sequence.nd rfl (by first | exact Or.inl rfl | exact Or.inr rfl) (pe_lst pa_nil))
    (pss_cons (ps_for PassesOwn.never rfl (pi_range1 (by rfl) T.n_range (pa_cons (pe_callH G_law_draw (hr.mono (by omega)) (by rfl) (pa_cons (pv 0) (pa_cons (pe_op op_add (pv 1) pe_int) pa_nil))) pa_nil)) (pg_name (i := 6) sc_law_sequence.nd rfl (by first | exact Or.inl rfl | exact Or.inr rfl))
      (pss_cons (ps_par (i := 7) (j := 8) (by rfl) sc_law_sequence.nd rfl rfl (by decide) rfl rfl (pa_cons (pe_ix ix_list (pv 4) (pe_callH G_law_draw (hr.mono (by omega)) (by rfl) (pa_cons (pv 0) (pa_cons (pe_callB call_len_seq (by rfl) T.n_len (by decide +kernel) (pa_cons (pv 4) pa_nil)) pa_nil))) (fun _ _ => rfl)) (pa_cons (pe_op op_add pe_int (pe_callH G_law_draw (hr.mono (by omega)) (by rfl) (pa_cons (pv 0) (pa_cons (pv 2) pa_nil)))) pa_nil)) (by rfl))
    (pss_one (ps_if (PW.pt (pw_or (pt_cmpR (op_eqD hr.units) (pv 5) (pe_lst pa_nil) (nomark _)) (pw_or1 (pt_cmpR op_ne (pe_ix ix_tup (pe_ix ix_list (pv 5) (pe_un un_neg pe_int) (fun _ _ => rfl)) pe_int (fun _ _ => rfl)) (pv 7) (nomark _))))) (pss_one (ps_expr (pe_bm PySem.F.plainAttrs_list PySem.F.slot_list_append PySem.F.type_list_append mt_append (pv 5) (pa_cons (pe_tup (pa_cons (pv 7) (pa_cons (pv 8) pa_nil))) pa_nil)))) pss_nil))))
    (pss_one (ps_ret (pv 5))))))), ?_⟩
    refine ⟨(by show 8 ≤ sizeLine; decide), fun pl npl => ?_⟩
    have z1 : Spr (upd H pl (.lst (eight.map V.str))) sp := hz.same (same_upd npl)
    have n1 : pl ≠ sp := Spr.ne hz npl
    refine ⟨_, rfl, sp, 5, rfl, z1, by decide, by decide, fun H2 r2 b2 z2 r20 r21 => ?_⟩
    have hp2 : H2 pl = some (.lst (eight.map V.str)) := b2 _ _ n1 upd_same
    have B2 : But sp H H2 := (sb (same_upd npl)).trans b2
    refine ⟨_, _, rfl, rfl, 1 + r2, rfl, by omega, by omega, fun L nL => ?_⟩
    have nLs : L ≠ sp := Spr.ne z2 nL
    have nLp : L ≠ pl := fun e => by rw [e, hp2] at nL; cases nL
    have nLH : H L = none := B2.free z2 nL
    refine lc_range (lo := 0) (n := (1 + r2).toNat) (fun i H' => ∃ ps ks : List Str, But sp H H' ∧ Spr H' sp ∧ H' pl = some (.lst (ps.map V.str)) ∧ ps.length + i = 8 ∧ (∀ s ∈ ps, KindOk s) ∧ H' L = some (.lst (ks.map V.str)) ∧ ks.length = i ∧ (∀ s ∈ ks, KindOk s))
      ⟨eight, [], B2.trans (sb (same_upd nL)), z2.same (same_upd nL), by rw [upd_ne nLp.symm]; exact hp2, rfl, eight_ok, upd_same, rfl, fun s h => by cases h⟩ (fun i H3 hi hP => ?_) (fun H3 hP => ?_)
    · obtain ⟨ps, ks, b3, z3, hpl, lp, okp, hL, lk, okk⟩ := hP
      refine ⟨rfl, yesT ⟨_, rfl, .inl ⟨rfl, _, SqL.of hpl⟩, _, rfl, _, rfl, pl, _, rfl, .inl (.of hpl), sp, _, rfl, z3, ?_, ?_, fun H4 r4 b4 z4 r40 r41 => ?_⟩⟩
      · rw [List.length_map]
        omega
      · rw [List.length_map]
        exact wide8 (by omega) (by omega)
      · rw [List.length_map] at r41
        have lt : r4.toNat < ps.length := by omega
        have h4 : H4 pl = some (.lst (ps.map V.str)) := b4 _ _ n1 hpl
        have hL4 : H4 L = some (.lst (ks.map V.str)) := b4 _ _ nLs hL
        have ek : (ps.map V.str)[r4.toNat]? = some (.str ps[r4.toNat]) := by
          rw [List.getElem?_map, List.getElem?_eq_getElem lt]
          rfl
        have ix : seqIndex? r4 (ps.map V.str).length = some r4.toNat := by
          unfold seqIndex?
          rw [List.length_map]
          have e1 : ¬ r4 < 0 := by omega
          simp only [e1, if_false]
          rw [if_pos]
          simp
          omega
        refine ⟨pl, _, r4, r4.toNat, _, rfl, rfl, h4, by omega, by omega, ix, ek, ks.map V.str, ?_, ?_, ps.eraseIdx r4.toNat, ks ++ [ps[r4.toNat]], ?_, ?_, ?_, ?_, ?_, ?_, ?_, ?_⟩
        · rw [upd_ne nLp]
          exact hL4
        · rw [List.length_map]
          exact small (by omega)
        · intro b o nb eb
          have e1 : b ≠ L := ne_of_none eb nLH
          have e2 : b ≠ pl := ne_of_none eb npl
          rw [upd_ne e1, upd_ne e2]
          exact b4 b o nb (b3 b o nb eb)
        · obtain ⟨d, s, c, hs, rest⟩ := z4
          refine ⟨d, s, c, ?_, rest⟩
          rw [upd_ne nLs.symm, upd_ne n1.symm]
          exact hs
        · rw [upd_ne nLp.symm, upd_same, erase_map]
        · rw [List.length_eraseIdx_of_lt lt]
          omega
        · intro s hs
          exact okp s (List.mem_of_mem_eraseIdx hs)
        · rw [upd_same, List.map_append]
          rfl
        · rw [List.length_append, lk]
          rfl
        · intro s hs
          rcases List.mem_append.mp hs with h | h
          · exact okk s h
          · rw [List.mem_singleton.mp h]
            exact okp _ (List.getElem_mem lt)
    · obtain ⟨ps, ks, b3, z3, hpl, lp, okp, hL, lk, okk⟩ := hP
      refine ⟨Nat.zero_le _, fun p np => ?_⟩
      have npH : H p = none := b3.free z3 np
      have nps : p ≠ sp := Spr.ne z3 np
      have npL : p ≠ L := fun e => by rw [e, hL] at np; cases np
      refine ⟨_, rfl, _, rfl, _, _, rfl, rfl, sp, _, rfl, z3.same (same_upd np), (by show 1 ≤ m + 1; omega), (wide8 (by show 0 ≤ m + 1; omega) (by show m + 1 ≤ _; omega)), fun H5 r5 b5 z5 r50 r51 => ?_⟩
      have r51 : r5 < m + 1 := r51
      refine ⟨r5, rfl, by omega, by omega, for_range (lo := 0) (n := r5.toNat) (fun i σ H' => ∃ y6 y7 y8 rs, σ = [some (.ref sp), some (.int m), some (.int g), some (.ref pl), some (.ref L), some (.ref p), y6, y7, y8] ∧ But sp H H' ∧ Spr H' sp ∧ H' L = some (.lst (ks.map V.str)) ∧ Runs H' p rs ∧ rs.length ≤ i ∧ (∀ r ∈ rs, RunOk r ∧ r.2 ≤ g) ∧ Alt rs)
        ⟨none, none, none, [], rfl, (b3.trans (sb (same_upd np))).trans b5, z5, b5 _ _ nLs (same_upd np _ _ hL), ⟨[], b5 _ _ nps upd_same, .nil⟩, Nat.zero_le _, (fun r h => by cases h), (fun i x y h => by simp at h)⟩ (fun i σ H6 hi hP => ?_) (fun σ H6 hP => ?_)⟩
      · obtain ⟨y6, y7, y8, rs, rfl, b6, z6, hL6, hR, lr, okr, alt⟩ := hP
        refine ⟨_, rfl, _, rfl, _, rfl, L, _, rfl, .inl (.of hL6), sp, _, rfl, z6, ?_, ?_, fun H7 r7 b7 z7 r70 r71 => ?_⟩
        · rw [List.length_map]
          omega
        · rw [List.length_map]
          exact wide8 (by omega) (by omega)
        rw [List.length_map] at r71
        have lt : r7.toNat < ks.length := by omega
        have hL7 : H7 L = some (.lst (ks.map V.str)) := b7 _ _ nLs hL6
        have ek : (ks.map V.str)[r7.toNat]? = some (.str ks[r7.toNat]) := by
          rw [List.getElem?_map, List.getElem?_eq_getElem lt]
          rfl
        have kk : KindOk ks[r7.toNat] := okk _ (List.getElem_mem lt)
        generalize ks[r7.toNat] = kd at ek kk
        refine ⟨L, _, r7, _, rfl, rfl, .of hL7, atI_of r70 ek, ?_⟩
        refine ⟨_, rfl, _, rfl, sp, g, rfl, z7, g1, wide8 (by omega) (by omega), fun H8 r8 b8 z8 r80 r81 => ⟨_, _, rfl, rfl, _, _, rfl, ?_⟩⟩
        have B8 := b6.trans (b7.trans b8)
        have hL8 : H8 L = some (.lst (ks.map V.str)) := b8 _ _ nLs hL7
        have hR8 : Runs H8 p rs := (hR.but z6 b7).but z7 b8
        have okR : ∀ r ∈ rs, KindOk r.1 := fun r h => (okr r h).1.1
        clear b7 b8 hL7 hR hL6 b6 z6 z7
        obtain ⟨xs, hx, hpr⟩ := hR8
        have lx : xs.length = rs.length := Paired.len hpr
        dsimp only
        refine if_by (fun b H9 => Same H8 H9 ∧ (b = true → ∀ y, rs[rs.length - 1]? = some y → y.1 ≠ kd)) (fun Q' k => ?_) (fun H9 hq => ?_) (fun H9 hq => ?_)
        · refine ⟨_, rfl, Nat.zero_le _, fun e ne => ?_⟩
          have se : Same H8 (upd H8 e (.lst [])) := same_upd ne
          refine ⟨.list (rs.map dRun), .list [], .lst (.of (se _ _ hx)) (dp_all (prs_same se hpr)), .lst (.of upd_same) .nil, shaped_runs okR, shaped_nil, _, rfl, ?_⟩
          rw [eqv_nil]
          cases hrs : rs with
          | nil => exact iteP rfl (k _ _ ⟨se, fun _ y hy => by rw [hrs] at hy; cases hy⟩)
          | cons r0 t0 =>
            refine iteN rfl ?_
            have hne : rs ≠ [] := by rw [hrs]; intro z; cases z
            have hlt : rs.length - 1 < rs.length := by
              have : 0 < rs.length := by rw [hrs]; exact Nat.succ_pos _
              omega
            obtain ⟨x, ex, hxv⟩ := Paired.at' hpr (List.getElem?_eq_getElem hlt)
            obtain ⟨tt, rfl, htt⟩ := RunV.same se hxv
            have exl : atI xs (-1) = some (.ref tt) := by
              have h1 : xs ≠ [] := fun z => by rw [z] at lx; rw [hrs] at lx; cases lx
              have h2 : xs = xs.dropLast ++ [xs.getLast h1] := (List.dropLast_concat_getLast h1).symm
              have h3 : xs.getLast h1 = .ref tt := by
                have := List.getLast?_eq_getElem? (l := xs)
                rw [lx, ex, List.getLast?_eq_some_getLast h1] at this
                exact Option.some.inj this
              rw [h2, h3]
              exact atI_last _ _
            refine ⟨_, rfl, 1, rfl, p, xs, -1, _, rfl, rfl, .of (se _ _ hx), exl, tt, _, 0, _, rfl, rfl, .of htt, at0, _, rfl, rfl, _, rfl, ?_⟩
            refine k _ _ ⟨se, fun hb y hy => ?_⟩
            rw [List.getElem?_eq_getElem hlt] at hy
            cases hy
            intro z
            rw [z] at hb
            simp at hb
        · obtain ⟨s9, ha⟩ := hq
          refine ⟨_, rfl, .inl ⟨rfl, _, SqL.of (s9 _ _ hx)⟩, _, rfl, _, rfl, (by show 2 ≤ sizeLine; decide), fun n nn => ⟨p, _, _, rfl, rfl, same_upd nn _ _ (s9 _ _ hx), small (by omega), ?_⟩⟩
          have sn := s9.trans (same_upd (o := .tup [.str kd, .int (1 + r8)]) nn)
          refine ⟨_, _, _, rs ++ [(kd, 1 + r8)], rfl, ?_, ?_, ?_, ⟨_, upd_same, Paired.app (prs_grow (sn _ _ hx) (prs_same sn hpr)) (.cons (RunV.grow (sn _ _ hx) ⟨n, rfl, upd_same⟩) .nil)⟩, ?_, ?_, alt_snoc alt (ha rfl)⟩
          · intro b o nb eb
            rw [upd_ne (ne_of_none eb npH)]
            exact sn b o (B8 b o nb eb)
          · obtain ⟨d, s, c, hs, rest⟩ := z8.same sn
            refine ⟨d, s, c, ?_, rest⟩
            rw [upd_ne nps.symm]
            exact hs
          · rw [upd_ne npL.symm]
            exact sn _ _ hL8
          · rw [List.length_append]
            show rs.length + 1 ≤ i + 1
            omega
          · intro r hr
            rcases List.mem_append.mp hr with h | h
            · exact okr r h
            · rw [List.mem_singleton.mp h]
              exact ⟨⟨kk, by show 1 ≤ 1 + r8; omega, by show 1 + r8 ≤ _; omega⟩, by show 1 + r8 ≤ g; omega⟩
        · obtain ⟨s9, ha⟩ := hq
          exact ⟨_, _, _, rs, rfl, fun b o nb eb => s9 b o (B8 b o nb eb), z8.same s9, s9 _ _ hL8, ⟨xs, s9 _ _ hx, prs_same s9 hpr⟩, by omega, okr, alt⟩
      · obtain ⟨y6, y7, y8, rs, rfl, b6, z6, hL6, hR, lr, okr, alt⟩ := hP
        exact ⟨_, rfl, q H6 p rs b6 z6 npH hR ⟨by omega, fun r h => (okr r h).1, alt⟩ (by omega) (fun r h => (okr r h).2)⟩
end
end UP

set_option Elab.async false
set_option linter.all false
set_option maxRecDepth 100000
set_option maxHeartbeats 4000000
namespace UP
open PySem PySem.Spec PyProof.Rows L2
def scR (t : Int) (rs : List Run) : List Run := rs.map fun r => (r.1, r.2 * t)
def toldR (ws : List Run) : Option Run := match ws with
  | [] => none
  | r :: _ => some (r.1, (ws.length : Int))
def repR (k : Str) (n : Int) : Option Run := if n = 0 then none else some (k, n)
theorem repR_zero (k : Str) : repR k 0 = none := if_pos rfl
theorem repR_pos {k : Str} {n : Int} (h : 0 < n) : repR k n = some (k, n) := if_neg (by omega)
def PosO (st : Option Run) : Prop := ∀ r, st = some r → 1 ≤ r.2
theorem stepR_pos {st : Option Run} {k : Str} {c : Int} (h : PosO st) (hc : 1 ≤ c) : PosO (stepR st k c) := by
  intro r e
  cases st with
  | none =>
    cases e
    exact hc
  | some x =>
    have hx := h x rfl
    have e : (if x.1 = k then some (k, x.2 + c) else if 0 < x.2 - c then some (x.1, x.2 - c) else if x.2 - c = 0 then none else some (k, -(x.2 - c))) = some r := e
    by_cases h1 : x.1 = k
    · rw [if_pos h1] at e
      cases e
      show 1 ≤ x.2 + c
      omega
    · rw [if_neg h1] at e
      by_cases h2 : 0 < x.2 - c
      · rw [if_pos h2] at e
        cases e
        show 1 ≤ x.2 - c
        omega
      · rw [if_neg h2] at e
        by_cases h3 : x.2 - c = 0
        · rw [if_pos h3] at e
          cases e
        · rw [if_neg h3] at e
          cases e
          show 1 ≤ -(x.2 - c)
          omega
theorem stR_cons (r : Run) (l : List Run) (st : Option Run) : stR (r :: l) st = stR l (stepR st r.1 r.2) := rfl
theorem stR_pos : ∀ {rs : List Run} {st : Option Run}, PosO st → (∀ r ∈ rs, 1 ≤ r.2) → PosO (stR rs st)
  | [], _, h, _ => h
  | r :: t, st, h, k => by
    rw [stR_cons]
    exact stR_pos (stepR_pos h (k r (List.mem_cons_self ..))) fun x hx => k x (List.mem_cons_of_mem _ hx)
theorem StOk.pos {st : Option Run} (h : StOk st) : PosO st := fun r e => (h r e).2
section
variable {P : Program} {w : World} {K : PySem.W.Frag} {mg : Str → Option Value} {base : Heap}
/-! _law_scaled: slots 0:sequence 1:times 2:kind 3:count -/
abbrev s_law_scaled : Stmt := topS 30
theorem sc_law_scaled : FnScope ["sequence", "times", "kind", "count"] ["sequence", "times"] (defScope s_law_scaled) := ⟨rfl, rfl, rfl, by decide +kernel, rfl, by decide +kernel, by decide +kernel⟩
def sp_law_scaled : Sp := fun vs H Q _ => ∃ (a : Addr) (rs : List Run) (t : Int), vs = [.ref a, .int t] ∧ Runs H a rs ∧ rs.length ≤ 1000 ∧ (∀ r ∈ rs, 1 ≤ r.2 ∧ r.2 ≤ 1000) ∧ ∀ H' p, Same H H' → H p = none → Runs H' p (scR t rs) → Q (.ref p) H'
theorem ok_law_scaled (D : Df K mg "_law_scaled" s_law_scaled) : Has P w K mg base 1 "_law_scaled" ["sequence", "times"] sp_law_scaled := by
  refine has_of D sc_law_scaled (fun _ _ _ _ _ _ us hl => match us, hl with | [_, _], _ => rfl) (fun vs H Q E h => ?_) (fun f cdv A outer s H vs Q E hr h => ?_)
  · obtain ⟨_, _, _, rfl, _⟩ := h
    rfl
  · obtain ⟨a, rs, tm, rfl, ⟨xs, hx, hp⟩, l4, ok, q⟩ := h
    have lx : xs.length = rs.length := Paired.len hp
    refine ⟨_, (pss_one (ps_ret (pe_lc (own := [("kind", 2), ("count", 3)]) rfl sc_law_scaled.nd (pi_list (pv 0)) (blkOk_by (N := ["sequence", "times", "kind", "count"]) (sc := defScope s_law_scaled) (by decide +kernel)) (fun _ _ _ _ _ => (pg_tupK (K := K) (n := 2) rfl rfl (pgs_cons (pg_name (i := 2) sc_law_scaled.nd rfl (by first | exact Or.inl rfl | exact Or.inr rfl)) (pgs_cons (pg_name (i := 3) sc_law_scaled.nd rfl (by first | exact Or.inl rfl | exact Or.inr rfl)) pgs_nil)))) (fun _ _ _ _ _ => pts_nil) (fun _ _ _ _ _ => (pe_tup (pa_cons (pv 2) (pa_cons (pe_op op_mul (pv 3) (pv 1)) pa_nil))))))), ?_⟩
    refine ⟨_, rfl, a, rfl, ⟨xs, .of hx⟩, fun L nL => lc_list (K := K) (a := a) (xs := xs) (fun i H' => Same H H' ∧ ∃ ys, H' L = some (.lst ys) ∧ Paired (RunV H') ys (scR tm (rs.take i))) ⟨same_upd nL, [], upd_same, .nil⟩ (fun i H' _ p => .of (p.1 _ _ hx)) (fun i x H2 ex p => ?_) (fun H2 p => ?_)⟩
    · obtain ⟨sm, ys, hL, hy⟩ := p
      obtain ⟨r, er, hr1⟩ := Paired.at hp ex
      obtain ⟨t, rfl, ht⟩ := RunV.same sm hr1
      have hi : i < xs.length := (List.getElem?_eq_some_iff.mp ex).1
      have bd := ok r (List.mem_of_getElem? er)
      refine ⟨t, _, rfl, .of ht, rfl, _, _, rfl, _, _, rfl, rfl, rfl, yesT ⟨_, rfl, _, rfl, _, rfl, _, _, rfl, rfl, .inl ⟨by omega, by omega⟩, (by show 2 ≤ sizeLine; decide), fun n nn => ⟨_, same_upd nn _ _ hL, ?_, same_grow nL (sm.trans (same_upd nn)), _, upd_same, ?_⟩⟩⟩
      · have := Paired.len hy
        unfold scR at this
        rw [List.length_map, List.length_take] at this
        exact small (by omega)
      · rw [take_snoc er]
        unfold scR at hy ⊢
        rw [List.map_append]
        exact Paired.app (prs_grow (same_upd nn _ _ hL) (prs_same (same_upd nn) hy)) (.cons (RunV.grow (same_upd nn _ _ hL) ⟨n, rfl, upd_same⟩) .nil)
    · obtain ⟨sm, ys, hL, hy⟩ := p
      rw [lx, List.take_length] at hy
      exact q H2 L sm nL ⟨ys, hL, hy⟩
end
end UP

set_option Elab.async false
set_option linter.all false
set_option maxRecDepth 100000
set_option maxHeartbeats 4000000
namespace UP
open PySem PySem.Spec PyProof.Rows L2
/-! ### plain data, by depth -/
def Dsc (v : V) (d : PyData) : Prop := (v = .non ∧ d = .none) ∨ (∃ b, v = .bl b ∧ d = .bool b) ∨ (∃ i, v = .int i ∧ d = .int i) ∨ ∃ s, v = .str s ∧ d = .str s
def Dt (H : Hp) : Nat → V → PyData → Prop
  | 0, v, d => Dsc v d
  | n + 1, v, d => Dsc v d ∨ (∃ a xs ds, v = .ref a ∧ H a = some (.lst xs) ∧ d = .list ds ∧ Paired (Dt H n) xs ds ∧ ds.length ≤ 100000) ∨ ∃ a xs ds, v = .ref a ∧ H a = some (.tup xs) ∧ d = .tuple ds ∧ Paired (Dt H n) xs ds ∧ ds.length ≤ 100000
theorem Dt.same {H H' : Hp} (s : Same H H') : ∀ {n : Nat} {v : V} {d : PyData}, Dt H n v d → Dt H' n v d
  | 0, _, _, h => h
  | n + 1, v, d, h => by
    rcases h with h | ⟨a, xs, ds, e, h, e2, p, l⟩ | ⟨a, xs, ds, e, h, e2, p, l⟩
    · exact .inl h
    · exact .inr (.inl ⟨a, xs, ds, e, s _ _ h, e2, Paired.imp (fun _ _ z => Dt.same s z) p, l⟩)
    · exact .inr (.inr ⟨a, xs, ds, e, s _ _ h, e2, Paired.imp (fun _ _ z => Dt.same s z) p, l⟩)
theorem dsc_ref {a : Addr} {d : PyData} (h : Dsc (.ref a) d) : False := by
  rcases h with ⟨h, _⟩ | ⟨_, h, _⟩ | ⟨_, h, _⟩ | ⟨_, h, _⟩ <;> cases h
theorem dsc_lst {v : V} {ds : List PyData} (h : Dsc v (.list ds)) : False := by
  rcases h with ⟨_, h⟩ | ⟨_, _, h⟩ | ⟨_, _, h⟩ | ⟨_, _, h⟩ <;> cases h
theorem dsc_tup {v : V} {ds : List PyData} (h : Dsc v (.tuple ds)) : False := by
  rcases h with ⟨_, h⟩ | ⟨_, _, h⟩ | ⟨_, _, h⟩ | ⟨_, _, h⟩ <;> cases h
theorem dsc_one {v v' : V} {d : PyData} (h : Dsc v d) (h' : Dsc v' d) : v = v' := by
  rcases h with ⟨e, z⟩ | ⟨x, e, z⟩ | ⟨x, e, z⟩ | ⟨x, e, z⟩ <;> subst z <;> rcases h' with ⟨e', z⟩ | ⟨y, e', z⟩ | ⟨y, e', z⟩ | ⟨y, e', z⟩ <;> cases z <;> rw [e, e']
theorem kit_no {K : PySem.W.Frag} {c : String} (h1 : kitB c "list" = some false) (h2 : kitB c "tuple" = some false) : PySem.W.kitAny K (.type c) [.type "list", .type "tuple"] = some false :=
  kitAny_cons (b := false) (kit_ty h1) (fun _ => kitAny_cons (b := false) (kit_ty h2) (fun _ => rfl) (fun z => nomatch z)) (fun z => nomatch z)
theorem ixL {K : PySem.W.Frag} {x y : V} {H : Hp} {Q : VK} (h : rIxL K x y H Q) : rIx K x y H Q := .inl h
theorem ixT {K : PySem.W.Frag} {x y : V} {H : Hp} {Q : VK} (h : rIxT K x y H Q) : rIx K x y H Q := .inr (.inl h)
section
variable {P : Program} {w : World} {K : PySem.W.Frag} {mg : Str → Option Value} {base : Heap}
/-! _law_same: slots 0:found 1:due 2:k -/
abbrev s_law_same : Stmt := topS 27
theorem sc_law_same : FnScope ["found", "due", "k"] ["found", "due"] (defScope s_law_same) := ⟨rfl, rfl, rfl, by decide +kernel, rfl, by decide +kernel, by decide +kernel⟩
def sp_law_same (n : Nat) : Sp := fun vs H Q _ => ∃ v v' d, vs = [v, v'] ∧ Dt H n v d ∧ Dt H n v' d ∧ ∀ H', Same H H' → Q (.bl true) H'
def sp_none : Sp := fun _ _ _ _ => False
def sp_pre : Nat → Sp
  | 0 => sp_none
  | n + 1 => sp_law_same n
theorem none_law_same (D : Df K mg "_law_same" s_law_same) : Has P w K mg base 1 "_law_same" ["found", "due"] sp_none :=
  has_of D sc_law_same (fun _ _ _ _ _ _ us hl => match us, hl with | [_, _], _ => rfl) (fun _ _ _ _ h => h.elim) (fun _ _ _ _ _ _ _ _ _ _ h => h.elim)
theorem call_of {n : Nat} {vs : List V} {H : Hp} {Q : VK} {E : XK} (h : sp_law_same n vs H Q E) : sp_pre (n + 1) vs H Q E := h
theorem step_law_same (D : Df K mg "_law_same" s_law_same) (T : Tx mg) (m : Nat) (G_law_same : Has P w K mg base (m + 1) "_law_same" ["found", "due"] (sp_pre m)) : Has P w K mg base (m + 2) "_law_same" ["found", "due"] (sp_law_same m) := by
  refine has_of D sc_law_same (fun _ _ _ _ _ _ us hl => match us, hl with | [_, _], _ => rfl) (fun vs H Q E h => ?_) (fun f cdv A outer s H vs Q E hr h => ?_)
  · obtain ⟨_, _, _, rfl, _⟩ := h
    rfl
  · obtain ⟨v, v', d, rfl, h1, h2, q⟩ := h
    refine ⟨_, (pss_cons (ps_if (pt_val (pe_callB call_isiT (by rfl) T.n_isinstance (by decide +kernel) (pa_cons (pv 1) (pa_cons (pe_tup (pa_cons (pe_bltn (v := .ty "list") (by rfl) T.n_list (by decide +kernel) rfl) (pa_cons (pe_bltn (v := .ty "tuple") (by rfl) T.n_tuple (by decide +kernel) rfl) pa_nil))) pa_nil)))) (pss_cons (ps_if (PW.pt (pw_or (pt_cmpR op_ne (pe_callB call_isi (by rfl) T.n_isinstance (by decide +kernel) (pa_cons (pv 0) (pa_cons (pe_bltn (v := .ty "list") (by rfl) T.n_list (by decide +kernel) rfl) pa_nil))) (pe_callB call_isi (by rfl) T.n_isinstance (by decide +kernel) (pa_cons (pv 1) (pa_cons (pe_bltn (v := .ty "list") (by rfl) T.n_list (by decide +kernel) rfl) pa_nil))) (nomark _)) (pw_or1 (pt_cmpR op_ne (pe_callB call_isi (by rfl) T.n_isinstance (by decide +kernel) (pa_cons (pv 0) (pa_cons (pe_bltn (v := .ty "tuple") (by rfl) T.n_tuple (by decide +kernel) rfl) pa_nil))) (pe_callB call_isi (by rfl) T.n_isinstance (by decide +kernel) (pa_cons (pv 1) (pa_cons (pe_bltn (v := .ty "tuple") (by rfl) T.n_tuple (by decide +kernel) rfl) pa_nil))) (nomark _))))) (pss_one (ps_ret pe_bl)) pss_nil)
    (pss_one (ps_ret (pe_and (pe_cmpR op_eq (pe_callB call_len_seq (by rfl) T.n_len (by decide +kernel) (pa_cons (pv 0) pa_nil)) (pe_callB call_len_seq (by rfl) T.n_len (by decide +kernel) (pa_cons (pv 1) pa_nil)) (nomark _)) (pe_one (pe_callB (cr_all rfl) (by rfl) T.n_all (by decide +kernel) (pa_cons (pe_lc (own := [("k", 2)]) rfl sc_law_same.nd (pi_range1 (by rfl) T.n_range (pa_cons (pe_callB call_len_seq (by rfl) T.n_len (by decide +kernel) (pa_cons (pv 1) pa_nil)) pa_nil)) (blkOk_by (N := ["found", "due", "k"]) (sc := defScope s_law_same) (by decide +kernel)) (fun _ _ _ _ _ => (pg_name (i := 2) sc_law_same.nd rfl (by first | exact Or.inl rfl | exact Or.inr rfl))) (fun _ _ _ _ _ => pts_nil) (fun _ _ _ _ _ => (pe_callH G_law_same (hr.mono (by omega)) (by rfl) (pa_cons (pe_ix (ix_seqK (K := K) rfl) (pv 0) (pv 2) (fun _ _ => rfl)) (pa_cons (pe_ix (ix_seqK (K := K) rfl) (pv 1) (pv 2) (fun _ _ => rfl)) pa_nil))))) pa_nil))))))) pss_nil)
    (pss_cons (ps_if (PW.pt (pw_or (pt_cmpR op_isN (pv 1) pe_non (nomark _)) (pw_or1 (pt_cmpR op_isN (pv 0) pe_non (nomark _))))) (pss_one (ps_ret (pe_and (pe_cmpR op_isN (pv 1) pe_non (nomark _)) (pe_one (pe_cmpR op_isN (pv 0) pe_non (nomark _)))))) pss_nil)
    (pss_cons (ps_if (PW.pt (pw_or (pt_cmpR op_ne (pe_callB call_isi (by rfl) T.n_isinstance (by decide +kernel) (pa_cons (pv 1) (pa_cons (pe_bltn (v := .ty "bool") (by rfl) T.n_bool (by decide +kernel) rfl) pa_nil))) (pe_callB call_isi (by rfl) T.n_isinstance (by decide +kernel) (pa_cons (pv 0) (pa_cons (pe_bltn (v := .ty "bool") (by rfl) T.n_bool (by decide +kernel) rfl) pa_nil))) (nomark _)) (pw_or1 (pt_cmpR op_ne (pe_callB call_isi (by rfl) T.n_isinstance (by decide +kernel) (pa_cons (pv 1) (pa_cons (pe_bltn (v := .ty "str") (by rfl) T.n_str (by decide +kernel) rfl) pa_nil))) (pe_callB call_isi (by rfl) T.n_isinstance (by decide +kernel) (pa_cons (pv 0) (pa_cons (pe_bltn (v := .ty "str") (by rfl) T.n_str (by decide +kernel) rfl) pa_nil))) (nomark _))))) (pss_one (ps_ret pe_bl)) pss_nil)
    (pss_one (ps_ret (pe_cmpR op_eq (pv 0) (pv 1) (nomark _))))))), ?_⟩
    have scalar : ∀ (ty : String), Dsc v d → Dsc v' d → True := fun _ _ _ => trivial
    clear scalar
    have hs : (Dsc v d ∧ Dsc v' d) ∨ ∃ n, m = n + 1 ∧ ((∃ a xs ds, v = .ref a ∧ H a = some (.lst xs) ∧ d = .list ds ∧ Paired (Dt H n) xs ds ∧ ds.length ≤ 100000) ∨ ∃ a xs ds, v = .ref a ∧ H a = some (.tup xs) ∧ d = .tuple ds ∧ Paired (Dt H n) xs ds ∧ ds.length ≤ 100000) := by
      cases m with
      | zero => exact .inl ⟨h1, h2⟩
      | succ n =>
        rcases h1 with h1 | h1 | h1
        · rcases h2 with h2 | ⟨a, xs, ds, _, _, e, _⟩ | ⟨a, xs, ds, _, _, e, _⟩
          · exact .inl ⟨h1, h2⟩
          · rw [e] at h1
            exact (dsc_lst h1).elim
          · rw [e] at h1
            exact (dsc_tup h1).elim
        · exact .inr ⟨n, rfl, .inl h1⟩
        · exact .inr ⟨n, rfl, .inr h1⟩
    rcases hs with ⟨s1, s2⟩ | ⟨n, rfl, h1 | h1⟩
    · have ev := dsc_one s1 s2
      subst ev
      rcases s1 with ⟨rfl, _⟩ | ⟨b, rfl, _⟩ | ⟨i, rfl, _⟩ | ⟨z, rfl, _⟩
      · refine ⟨_, rfl, (by show 2 ≤ sizeLine; decide), fun tp nt => ⟨_, tp, _, _, _, false, rfl, upd_same, .cons (.ty "list") (.cons (.ty "tuple") .nil), .base .non, kit_no (by decide +kernel) (by decide +kernel), false, rfl, iteF ?_⟩⟩
        exact ⟨_, rfl, rfl, _, rfl, iteP rfl (iteT ⟨_, rfl, rfl, true, rfl, iteT ⟨_, rfl, rfl, q _ (same_upd nt)⟩⟩)⟩
      · refine ⟨_, rfl, (by show 2 ≤ sizeLine; decide), fun tp nt => ⟨_, tp, _, _, _, false, rfl, upd_same, .cons (.ty "list") (.cons (.ty "tuple") .nil), .base (.bl b), kit_no (by decide +kernel) (by decide +kernel), false, rfl, iteF ?_⟩⟩
        refine ⟨_, rfl, rfl, _, rfl, iteN rfl ⟨_, rfl, rfl, _, rfl, iteN rfl ?_⟩⟩
        refine ⟨_, rfl, _, _, _, _, true, rfl, .ty "bool", .base (.bl b), kit_ty (by decide +kernel), _, rfl, _, _, _, _, true, rfl, .ty "bool", .base (.bl b), kit_ty (by decide +kernel), rfl, _, rfl, iteN (by decide) ?_⟩
        refine ⟨_, rfl, _, _, _, _, false, rfl, .ty "str", .base (.bl b), kit_ty (by decide +kernel), _, rfl, _, _, _, _, false, rfl, .ty "str", .base (.bl b), kit_ty (by decide +kernel), rfl, _, rfl, iteN (by decide) ?_⟩
        refine ⟨_, rfl, _, rfl, rfl, ?_⟩
        rw [decide_eq_true rfl]
        exact q _ (same_upd nt)
      · refine ⟨_, rfl, (by show 2 ≤ sizeLine; decide), fun tp nt => ⟨_, tp, _, _, _, false, rfl, upd_same, .cons (.ty "list") (.cons (.ty "tuple") .nil), .base (.int i), kit_no (by decide +kernel) (by decide +kernel), false, rfl, iteF ?_⟩⟩
        refine ⟨_, rfl, rfl, _, rfl, iteN rfl ⟨_, rfl, rfl, _, rfl, iteN rfl ?_⟩⟩
        refine ⟨_, rfl, _, _, _, _, false, rfl, .ty "bool", .base (.int i), kit_ty (by decide +kernel), _, rfl, _, _, _, _, false, rfl, .ty "bool", .base (.int i), kit_ty (by decide +kernel), rfl, _, rfl, iteN (by decide) ?_⟩
        refine ⟨_, rfl, _, _, _, _, false, rfl, .ty "str", .base (.int i), kit_ty (by decide +kernel), _, rfl, _, _, _, _, false, rfl, .ty "str", .base (.int i), kit_ty (by decide +kernel), rfl, _, rfl, iteN (by decide) ?_⟩
        refine ⟨_, rfl, _, rfl, rfl, ?_⟩
        rw [decide_eq_true rfl]
        exact q _ (same_upd nt)
      · refine ⟨_, rfl, (by show 2 ≤ sizeLine; decide), fun tp nt => ⟨_, tp, _, _, _, false, rfl, upd_same, .cons (.ty "list") (.cons (.ty "tuple") .nil), .base (.str z), kit_no (by decide +kernel) (by decide +kernel), false, rfl, iteF ?_⟩⟩
        refine ⟨_, rfl, rfl, _, rfl, iteN rfl ⟨_, rfl, rfl, _, rfl, iteN rfl ?_⟩⟩
        refine ⟨_, rfl, _, _, _, _, false, rfl, .ty "bool", .base (.str z), kit_ty (by decide +kernel), _, rfl, _, _, _, _, false, rfl, .ty "bool", .base (.str z), kit_ty (by decide +kernel), rfl, _, rfl, iteN (by decide) ?_⟩
        refine ⟨_, rfl, _, _, _, _, true, rfl, .ty "str", .base (.str z), kit_ty (by decide +kernel), _, rfl, _, _, _, _, true, rfl, .ty "str", .base (.str z), kit_ty (by decide +kernel), rfl, _, rfl, iteN (by decide) ?_⟩
        refine ⟨_, rfl, _, rfl, rfl, ?_⟩
        rw [decide_eq_true rfl]
        exact q _ (same_upd nt)
    · obtain ⟨a1, xs, ds, rfl, hx, rfl, px, ld⟩ := h1
      rcases h2 with h2 | h2 | h2
      · exact (dsc_lst h2).elim
      · obtain ⟨a2, ys, ds2, rfl, hy, e2, py, _⟩ := h2
        cases e2
        have l1 : xs.length = ds.length := Paired.len px
        have l2 : ys.length = ds.length := Paired.len py
        refine ⟨_, rfl, (by show 2 ≤ sizeLine; decide), fun tp nt => ⟨_, tp, _, _, _, true, rfl, upd_same, .cons (.ty "list") (.cons (.ty "tuple") .nil), .base (.lst (same_upd nt _ _ hy)), kit_lst, true, rfl, iteT ?_⟩⟩
        have st : Same H (upd H tp (.tup [.ty "list", .ty "tuple"])) := same_upd nt
        refine ⟨_, rfl, _, _, _, _, true, rfl, .ty "list", .base (.lst (st _ _ hx)), kit_ty (by decide +kernel), _, rfl, _, _, _, _, true, rfl, .ty "list", .base (.lst (st _ _ hy)), kit_ty (by decide +kernel), rfl, _, rfl, iteN (by decide) ?_⟩
        refine ⟨_, rfl, _, _, _, _, false, rfl, .ty "tuple", .base (.lst (st _ _ hx)), kit_ty (by decide +kernel), _, rfl, _, _, _, _, false, rfl, .ty "tuple", .base (.lst (st _ _ hy)), kit_ty (by decide +kernel), rfl, _, rfl, iteN (by decide) ?_⟩
        refine ⟨_, rfl, a1, xs, rfl, .inl (.of (st _ _ hx)), _, rfl, a2, ys, rfl, .inl (.of (st _ _ hy)), rfl, true, ?_, iteT ?_⟩
        · rw [l1, l2]
          exact congrArg V.bl (decide_eq_true rfl)
        refine ⟨_, rfl, a2, ys, rfl, .inl (.of (st _ _ hy)), _, rfl, by omega, by omega, fun L nL => ?_⟩
        refine lc_range (lo := 0) (n := ((ys.length : Int)).toNat) (fun i H' => Same (upd H tp (.tup [.ty "list", .ty "tuple"])) H' ∧ H' L = some (.lst ((List.replicate i true).map V.bl))) ⟨same_upd nL, upd_same⟩ (fun i H' hi p => ?_) (fun H' p => ?_)
        · obtain ⟨sm, hL⟩ := p
          have hi : i < ds.length := by omega
          obtain ⟨x, ex, dx⟩ := Paired.at' px (List.getElem?_eq_getElem hi)
          obtain ⟨y, ey, dy⟩ := Paired.at' py (List.getElem?_eq_getElem hi)
          have sA : Same H H' := st.trans sm
          refine ⟨rfl, yesT ⟨_, rfl, _, rfl, ixL ⟨a1, xs, 0 + i, x, rfl, rfl, .of (sA _ _ hx), atI_of (by omega) (by rw [show (0 + (i : Int)).toNat = i by omega]; exact ex), _, rfl, _, rfl, ixL ⟨a2, ys, 0 + i, y, rfl, rfl, .of (sA _ _ hy), atI_of (by omega) (by rw [show (0 + (i : Int)).toNat = i by omega]; exact ey), ?_⟩⟩⟩⟩
          refine ⟨x, y, _, rfl, dx.same sA, dy.same sA, fun H2 s2 => ⟨_, s2 _ _ hL, ?_, same_grow nL (sm.trans s2), ?_⟩⟩
          · simp only [List.length_map, List.length_replicate]
            exact small (by omega)
          · rw [upd_same, List.replicate_succ', List.map_append]
            rfl
        · refine ⟨L, _, rfl, .of p.2, ?_⟩
          rw [all_rep]
          exact q H' (st.trans p.1)
      · obtain ⟨_, _, _, _, _, e2, _⟩ := h2
        cases e2
    · obtain ⟨a1, xs, ds, rfl, hx, rfl, px, ld⟩ := h1
      rcases h2 with h2 | h2 | h2
      · exact (dsc_tup h2).elim
      · obtain ⟨_, _, _, _, _, e2, _⟩ := h2
        cases e2
      · obtain ⟨a2, ys, ds2, rfl, hy, e2, py, _⟩ := h2
        cases e2
        have l1 : xs.length = ds.length := Paired.len px
        have l2 : ys.length = ds.length := Paired.len py
        refine ⟨_, rfl, (by show 2 ≤ sizeLine; decide), fun tp nt => ⟨_, tp, _, _, _, true, rfl, upd_same, .cons (.ty "list") (.cons (.ty "tuple") .nil), .base (.tup (same_upd nt _ _ hy)), kit_tup, true, rfl, iteT ?_⟩⟩
        have st : Same H (upd H tp (.tup [.ty "list", .ty "tuple"])) := same_upd nt
        refine ⟨_, rfl, _, _, _, _, false, rfl, .ty "list", .base (.tup (st _ _ hx)), kit_ty (by decide +kernel), _, rfl, _, _, _, _, false, rfl, .ty "list", .base (.tup (st _ _ hy)), kit_ty (by decide +kernel), rfl, _, rfl, iteN (by decide) ?_⟩
        refine ⟨_, rfl, _, _, _, _, true, rfl, .ty "tuple", .base (.tup (st _ _ hx)), kit_ty (by decide +kernel), _, rfl, _, _, _, _, true, rfl, .ty "tuple", .base (.tup (st _ _ hy)), kit_ty (by decide +kernel), rfl, _, rfl, iteN (by decide) ?_⟩
        refine ⟨_, rfl, a1, xs, rfl, .inr (.of (st _ _ hx)), _, rfl, a2, ys, rfl, .inr (.of (st _ _ hy)), rfl, true, ?_, iteT ?_⟩
        · rw [l1, l2]
          exact congrArg V.bl (decide_eq_true rfl)
        refine ⟨_, rfl, a2, ys, rfl, .inr (.of (st _ _ hy)), _, rfl, by omega, by omega, fun L nL => ?_⟩
        refine lc_range (lo := 0) (n := ((ys.length : Int)).toNat) (fun i H' => Same (upd H tp (.tup [.ty "list", .ty "tuple"])) H' ∧ H' L = some (.lst ((List.replicate i true).map V.bl))) ⟨same_upd nL, upd_same⟩ (fun i H' hi p => ?_) (fun H' p => ?_)
        · obtain ⟨sm, hL⟩ := p
          have hi : i < ds.length := by omega
          obtain ⟨x, ex, dx⟩ := Paired.at' px (List.getElem?_eq_getElem hi)
          obtain ⟨y, ey, dy⟩ := Paired.at' py (List.getElem?_eq_getElem hi)
          have sA : Same H H' := st.trans sm
          refine ⟨rfl, yesT ⟨_, rfl, _, rfl, ixT ⟨a1, xs, 0 + i, x, rfl, rfl, .of (sA _ _ hx), atI_of (by omega) (by rw [show (0 + (i : Int)).toNat = i by omega]; exact ex), _, rfl, _, rfl, ixT ⟨a2, ys, 0 + i, y, rfl, rfl, .of (sA _ _ hy), atI_of (by omega) (by rw [show (0 + (i : Int)).toNat = i by omega]; exact ey), ?_⟩⟩⟩⟩
          refine ⟨x, y, _, rfl, dx.same sA, dy.same sA, fun H2 s2 => ⟨_, s2 _ _ hL, ?_, same_grow nL (sm.trans s2), ?_⟩⟩
          · simp only [List.length_map, List.length_replicate]
            exact small (by omega)
          · rw [upd_same, List.replicate_succ', List.map_append]
            rfl
        · refine ⟨L, _, rfl, .of p.2, ?_⟩
          rw [all_rep]
          exact q H' (st.trans p.1)
theorem ok_law_same (D : Df K mg "_law_same" s_law_same) (T : Tx mg) : ∀ n, Has P w K mg base (n + 2) "_law_same" ["found", "due"] (sp_law_same n)
  | 0 => step_law_same D T 0 (none_law_same D)
  | n + 1 => step_law_same D T (n + 1) (ok_law_same D T n)
end
end UP

set_option Elab.async false
set_option linter.all false
set_option maxRecDepth 100000
set_option maxHeartbeats 4000000
namespace UP
open PySem PySem.Spec PyProof.Rows L2
/-! ### a walk over one object that stays, whatever else is changed -/
structure WkA (J : It) (H : Hp) (a : Addr) (xs : List V) : Prop where
  go : ∀ i H', H' a = H a → i < xs.length → J.go i H'
  stop : ∀ H', H' a = H a → J.stop xs.length H'
  yld : ∀ i x H' H'', H' a = H a → J.yld i H' x H'' → H'' = H' ∧ xs[i]? = some x
def iSeqA (i : Nat) : TI := fun σ H R => ∃ a xs, σ[i]? = some (some (.ref a)) ∧ Sq2 H a xs ∧ ∀ J, WkA J H a xs → R J H
section
variable {X : Cx}
theorem wka_list {K : PySem.W.Frag} {H : Hp} {a : Addr} {xs : List V} (h : H a = some (.lst xs)) : WkA (Itl K a) H a xs :=
  ⟨fun i H' e hi => ⟨xs, xs[i], .of (e.trans h), List.getElem?_eq_getElem hi⟩, fun H' e => ⟨xs, .of (e.trans h), Nat.le_refl _⟩, fun i x H' H'' e y => ⟨y.1, y.2 xs (.of (e.trans h))⟩⟩
theorem wka_tup {K : PySem.W.Frag} {H : Hp} {a : Addr} {xs : List V} (h : H a = some (.tup xs)) : WkA (Itt K a) H a xs :=
  ⟨fun i H' e hi => ⟨xs, xs[i], .of (e.trans h), List.getElem?_eq_getElem hi⟩, fun H' e => ⟨xs, .of (e.trans h), Nat.le_refl _⟩, fun i x H' H'' e y => ⟨y.1, y.2 xs (.of (e.trans h))⟩⟩
theorem pi_seqA (i : Nat) {x : Str} {pos : Pos} {tg : Expr} (hN : X.N[i]? = some x := by rfl) (hv : Vis X.env.scope x := by first | exact Or.inl rfl | exact Or.inr (Or.inl rfl) | exact Or.inr (Or.inr rfl)) (hd : (x == ("__debug__" : Str)) = false := by decide)
    (hc : (x == ("__classdict__" : Str)) = false := by decide) : PI X tg (.Name x pos) (iSeqA i) := by
  refine ⟨fun pins s σ H R I hw => ?_⟩
  obtain ⟨a, xs, e, h, k⟩ := hw
  rcases h with h | h
  · exact (pi_list (pe_var hN hv hd hc)).run pins s σ H R I ⟨_, e, a, rfl, ⟨xs, .of h⟩, k _ (wka_list h)⟩
  · exact (pi_tup (pe_var hN hv hd hc)).run pins s σ H R I ⟨_, e, a, rfl, ⟨xs, .of h⟩, k _ (wka_tup h)⟩
end
theorem lc_wka {J : It} {H0 H1 : Hp} {a : Addr} {xs : List V} {g : TG} {tt : TT} {te : TE} {vs : List Nat} {σ : L2.St} {D : Addr} {Qd : Hp → Prop} (wk : WkA J H0 a xs) (Pv : Nat → Hp → Prop) (hsm : ∀ i H, Pv i H → H a = H0 a) (h0 : Pv 0 (upd H1 D (.lst [])))
    (hs : ∀ i x H, xs[i]? = some x → Pv i H → g x (wipe σ vs) H fun σ2 H2 => wipe σ2 vs = wipe σ vs ∧ tt σ2 H2 fun b H3 =>
      if b = true then te σ2 H3 fun y H4 => ∃ acc, H4 D = some (.lst acc) ∧ acc.length < sizeLine ∧ Pv (i + 1) (upd H4 D (.lst (acc ++ [y]))) else Pv (i + 1) H3) (hd : ∀ H, Pv xs.length H → Qd H) :
    ∃ W : Nat → Nat → Hp → Prop, (∃ m, W 0 m (upd H1 D (.lst []))) ∧ ∀ i m H, W i m H →
      (J.stop i H ∧ Qd H) ∨ (J.go i H ∧ ∃ Nx : Hp → Prop, (∀ H', Nx H' → ∃ m', m' < m ∧ W (i + 1) m' H') ∧ ∀ x H', J.yld i H x H' → g x (wipe σ vs) H' fun σ2 H2 => wipe σ2 vs = wipe σ vs ∧ tt σ2 H2 fun b H3 =>
        if b = true then te σ2 H3 fun y H4 => ∃ acc, H4 D = some (.lst acc) ∧ acc.length < sizeLine ∧ Nx (upd H4 D (.lst (acc ++ [y]))) else Nx H3) := by
  refine lc_gen Pv h0 (fun i H hi p => wk.go i H (hsm i H p) hi) (fun H p => wk.stop H (hsm _ H p)) (fun i x H H' hi p y => ?_) hd
  obtain ⟨e, ex⟩ := wk.yld i x H H' (hsm i H p) y
  subst e
  exact hs i x _ ex p
theorem for_gen {J : It} {n : Nat} {H : Hp} {g : TG} {tb : TS} {D : Ends} {σ : L2.St} (Pv : Nat → L2.St → Hp → Prop) (h0 : Pv 0 σ H) (hg : ∀ i σ H, i < n → Pv i σ H → J.go i H) (hst : ∀ σ H, Pv n σ H → J.stop n H)
    (hs : ∀ i x σ H H', i < n → Pv i σ H → J.yld i H x H' → g x σ H' fun σ2 H2 => tb { D with nx := Pv (i + 1), ct := Pv (i + 1), bk := D.nx } σ2 H2) (hd : ∀ σ H, Pv n σ H → D.nx σ H) :
    ∃ W : Nat → Nat → L2.St → Hp → Prop, (∃ m, W 0 m σ H) ∧ ∀ i m σ H, W i m σ H →
      (J.stop i H ∧ D.nx σ H) ∨ (J.go i H ∧ ∃ N : L2.St → Hp → Prop, (∀ σ' H', N σ' H' → ∃ m', m' < m ∧ W (i + 1) m' σ' H') ∧ ∀ x H', J.yld i H x H' → g x σ H' fun σ2 H2 => tb { D with nx := N, ct := N, bk := D.nx } σ2 H2) := by
  refine ⟨fun i m σ H => m = n - i ∧ i ≤ n ∧ Pv i σ H, ⟨n, by omega, Nat.zero_le _, h0⟩, ?_⟩
  rintro i m σ H ⟨rfl, hi, p⟩
  by_cases hlt : i < n
  · exact Or.inr ⟨hg i σ H hlt p, Pv (i + 1), fun σ' H' p' => ⟨n - (i + 1), by omega, rfl, hlt, p'⟩, fun x H' y => hs i x σ H H' hlt p y⟩
  · have e : i = n := by omega
    subst e
    exact Or.inl ⟨hst σ H p, hd σ H p⟩
theorem for_wka {J : It} {H0 H : Hp} {a : Addr} {xs : List V} {g : TG} {tb : TS} {D : Ends} {σ : L2.St} (wk : WkA J H0 a xs) (Pv : Nat → L2.St → Hp → Prop) (hsm : ∀ i σ H, Pv i σ H → H a = H0 a) (h0 : Pv 0 σ H)
    (hs : ∀ i x σ H, xs[i]? = some x → Pv i σ H → g x σ H fun σ2 H2 => tb { D with nx := Pv (i + 1), ct := Pv (i + 1), bk := D.nx } σ2 H2) (hd : ∀ σ H, Pv xs.length σ H → D.nx σ H) :
    ∃ W : Nat → Nat → L2.St → Hp → Prop, (∃ m, W 0 m σ H) ∧ ∀ i m σ H, W i m σ H →
      (J.stop i H ∧ D.nx σ H) ∨ (J.go i H ∧ ∃ N : L2.St → Hp → Prop, (∀ σ' H', N σ' H' → ∃ m', m' < m ∧ W (i + 1) m' σ' H') ∧ ∀ x H', J.yld i H x H' → g x σ H' fun σ2 H2 => tb { D with nx := N, ct := N, bk := D.nx } σ2 H2) := by
  refine for_gen Pv h0 (fun i σ H hi p => wk.go i H (hsm i σ H p) hi) (fun σ H p => wk.stop H (hsm _ σ H p)) (fun i x σ H H' hi p y => ?_) hd
  obtain ⟨e, ex⟩ := wk.yld i x H H' (hsm i σ H p) y
  subst e
  exact hs i x σ _ ex p
theorem Sq2.eq {H H' : Hp} {a : Addr} {xs : List V} (h : Sq2 H a xs) (s : Same H H') : H' a = H a := h.elim (fun z => (s _ _ z).trans z.symm) (fun z => (s _ _ z).trans z.symm)
/-! ### data without its dress -/
def Sim (N : Addr → Prop) (H : Hp) : Nat → V → PyData → Prop
  | 0, v, d => Dsc v d
  | n + 1, v, d => Dsc v d ∨ ∃ a xs ds, v = .ref a ∧ N a ∧ Sq2 H a xs ∧ d = .list ds ∧ Paired (Sim N H n) xs ds ∧ ds.length ≤ 1000
theorem Sim.keep {N N' : Addr → Prop} {H H' : Hp} (hn : ∀ a, N a → N' a) (hk : ∀ a o, N a → H a = some o → H' a = some o) : ∀ {n : Nat} {v : V} {d : PyData}, Sim N H n v d → Sim N' H' n v d
  | 0, _, _, h => h
  | n + 1, v, d, h => by
    rcases h with h | ⟨a, xs, ds, e, na, hx, e2, p, l⟩
    · exact .inl h
    · exact .inr ⟨a, xs, ds, e, hn a na, hx.elim (fun z => .inl (hk _ _ na z)) (fun z => .inr (hk _ _ na z)), e2, Paired.imp (fun _ _ z => Sim.keep hn hk z) p, l⟩
theorem Sim.dsc {N : Addr → Prop} {H : Hp} {v : V} {d : PyData} : ∀ {n : Nat}, Dsc v d → Sim N H n v d
  | 0, h => h
  | n + 1, h => .inl h
section
variable {P : Program} {w : World} {K : PySem.W.Frag} {mg : Str → Option Value} {base : Heap}
/-! _law_dressed: slots 0:spring 1:value 2:parts 3:part -/
abbrev s_law_dressed : Stmt := topS 31
theorem sc_law_dressed : FnScope ["spring", "value", "parts", "part"] ["spring", "value"] (defScope s_law_dressed) := ⟨rfl, rfl, rfl, by decide +kernel, rfl, by decide +kernel, by decide +kernel⟩
def sp_law_dressed (n : Nat) : Sp := fun vs H Q _ => ∃ (sp : Addr) (v : V) (d : PyData), vs = [.ref sp, v] ∧ Spr H sp ∧ Sim (· ≠ sp) H n v d ∧ ∀ H' v', But sp H H' → Spr H' sp → Sim (fun a => H a = none) H' n v' d → Q v' H'
def sp_pred : Nat → Sp
  | 0 => sp_none
  | n + 1 => sp_law_dressed n
theorem none_law_dressed (D : Df K mg "_law_dressed" s_law_dressed) : Has P w K mg base 1 "_law_dressed" ["spring", "value"] sp_none :=
  has_of D sc_law_dressed (fun _ _ _ _ _ _ us hl => match us, hl with | [_, _], _ => rfl) (fun _ _ _ _ h => h.elim) (fun _ _ _ _ _ _ _ _ _ _ h => h.elim)
theorem step_law_dressed (D : Df K mg "_law_dressed" s_law_dressed) (T : Tx mg) (m : Nat) (G_law_draw : Has P w K mg base 1 "_law_draw" ["spring", "many"] sp_law_draw) (G_law_dressed : Has P w K mg base (m + 1) "_law_dressed" ["spring", "value"] (sp_pred m)) :
    Has P w K mg base (m + 2) "_law_dressed" ["spring", "value"] (sp_law_dressed m) := by
  refine has_of D sc_law_dressed (fun _ _ _ _ _ _ us hl => match us, hl with | [_, _], _ => rfl) (fun vs H Q E h => ?_) (fun f cdv A outer s H vs Q E hr h => ?_)
  · obtain ⟨_, _, _, rfl, _⟩ := h
    rfl
  · obtain ⟨sp, v, d, rfl, hz, hv, q⟩ := h
    refine ⟨_, (pss_cons (ps_if (pt_not (pt_val (pe_callB call_isiT (by rfl) T.n_isinstance (by decide +kernel) (pa_cons (pv 1) (pa_cons (pe_tup (pa_cons (pe_bltn (v := .ty "list") (by rfl) T.n_list (by decide +kernel) rfl) (pa_cons (pe_bltn (v := .ty "tuple") (by rfl) T.n_tuple (by decide +kernel) rfl) pa_nil))) pa_nil))))) (pss_one (ps_ret (pv 1))) pss_nil)
    (pss_cons (ps_setLc (i := 2) (own := [("part", 3)]) rfl sc_law_dressed.nd rfl rfl (sw_true rfl rfl rfl (by decide +kernel)) (pi_seqA 1) (blkOk_by (N := ["spring", "value", "parts", "part"]) (sc := defScope s_law_dressed) (by decide +kernel)) (fun _ _ _ _ _ => (pg_name (i := 3) sc_law_dressed.nd rfl (by first | exact Or.inl rfl | exact Or.inr rfl))) (fun _ _ _ _ _ => pts_nil) (fun _ _ _ _ _ => (pe_callH G_law_dressed (hr.mono (by omega)) (by rfl) (pa_cons (pv 0) (pa_cons (pv 3) pa_nil)))))
    (pss_one (ps_ret (pe_ifExp (pt_cmpR op_eq (pe_callH G_law_draw (hr.mono (by omega)) (by rfl) (pa_cons (pv 0) (pa_cons pe_int pa_nil))) pe_int (nomark _)) (pv 2) (pe_callTy call_tuple_of (by rfl) T.n_tuple (by decide +kernel) (pa_cons (pv 2) pa_nil))))))), ?_⟩
    have hs : Dsc v d ∨ ∃ n, m = n + 1 ∧ ∃ a xs ds, v = .ref a ∧ a ≠ sp ∧ Sq2 H a xs ∧ d = .list ds ∧ Paired (Sim (· ≠ sp) H n) xs ds ∧ ds.length ≤ 1000 := by
      cases m with
      | zero => exact .inl hv
      | succ n =>
        rcases hv with hv | hv
        · exact .inl hv
        · exact .inr ⟨n, rfl, hv⟩
    rcases hs with hs | ⟨n, rfl, a, xs, ds, rfl, na, hx, rfl, px, ld⟩
    · have fin : ∀ t, H t = none → Q v (upd H t (.tup [.ty "list", .ty "tuple"])) := fun t nt => q _ _ (sb (same_upd nt)) (hz.same (same_upd nt)) (Sim.dsc hs)
      rcases hs with ⟨rfl, _⟩ | ⟨b, rfl, _⟩ | ⟨i, rfl, _⟩ | ⟨z, rfl, _⟩
      · exact ⟨_, rfl, (by show 2 ≤ sizeLine; decide), fun tp nt => ⟨_, tp, _, _, _, false, rfl, upd_same, .cons (.ty "list") (.cons (.ty "tuple") .nil), .base .non, kit_no (by decide +kernel) (by decide +kernel), false, rfl, iteT ⟨_, rfl, fin tp nt⟩⟩⟩
      · exact ⟨_, rfl, (by show 2 ≤ sizeLine; decide), fun tp nt => ⟨_, tp, _, _, _, false, rfl, upd_same, .cons (.ty "list") (.cons (.ty "tuple") .nil), .base (.bl b), kit_no (by decide +kernel) (by decide +kernel), false, rfl, iteT ⟨_, rfl, fin tp nt⟩⟩⟩
      · exact ⟨_, rfl, (by show 2 ≤ sizeLine; decide), fun tp nt => ⟨_, tp, _, _, _, false, rfl, upd_same, .cons (.ty "list") (.cons (.ty "tuple") .nil), .base (.int i), kit_no (by decide +kernel) (by decide +kernel), false, rfl, iteT ⟨_, rfl, fin tp nt⟩⟩⟩
      · exact ⟨_, rfl, (by show 2 ≤ sizeLine; decide), fun tp nt => ⟨_, tp, _, _, _, false, rfl, upd_same, .cons (.ty "list") (.cons (.ty "tuple") .nil), .base (.str z), kit_no (by decide +kernel) (by decide +kernel), false, rfl, iteT ⟨_, rfl, fin tp nt⟩⟩⟩
    · have lx : xs.length = ds.length := Paired.len px
      refine ⟨_, rfl, (by show 2 ≤ sizeLine; decide), fun tp nt => ?_⟩
      have st : Same H (upd H tp (.tup [.ty "list", .ty "tuple"])) := same_upd nt
      have go : ∃ t : Bool, t = true ∧ True := ⟨true, rfl, trivial⟩
      clear go
      have z1 := hz.same st
      have hx1 := hx.same st
      have px1 : Paired (Sim (· ≠ sp) (upd H tp (.tup [.ty "list", .ty "tuple"])) n) xs ds := Paired.imp (fun _ _ z => Sim.keep (fun _ h => h) (fun _ _ _ e => st _ _ e) z) px
      have fr1 : ∀ b, (upd H tp (.tup [.ty "list", .ty "tuple"])) b = none → H b = none := fun b e => st.free e
      have B1 : But sp H (upd H tp (.tup [.ty "list", .ty "tuple"])) := sb st
      have tpT : (upd H tp (.tup [.ty "list", .ty "tuple"])) tp = some (.tup [.ty "list", .ty "tuple"]) := upd_same
      clear px
      generalize (upd H tp (.tup [.ty "list", .ty "tuple"])) = H1 at z1 hx1 px1 fr1 B1 tpT
      have tail : ∀ (J : It), WkA J H1 a xs → ∀ L, H1 L = none → ∃ (Pv : Nat → Hp → Prop), Pv = fun i H' => But sp H1 H' ∧ Spr H' sp ∧ ∃ ys, H' L = some (.lst ys) ∧ Paired (Sim (fun b => H1 b = none ∧ b ≠ L) H' n) ys (ds.take i) := fun _ _ _ _ => ⟨_, rfl⟩
      clear tail
      have isi : ∃ c, TyX K H1 (.ref a) (.type c) ∧ PySem.W.kitAny K (.type c) [.type "list", .type "tuple"] = some true := hx1.elim (fun z => ⟨"list", .base (.lst z), kit_lst⟩) (fun z => ⟨"tuple", .base (.tup z), kit_tup⟩)
      obtain ⟨c, ty, ki⟩ := isi
      refine ⟨_, tp, _, _, _, true, rfl, tpT, .cons (.ty "list") (.cons (.ty "tuple") .nil), ty, ki, true, rfl, iteF ?_⟩
      refine ⟨a, xs, rfl, hx1, fun J wk L nL => ?_⟩
      have nLs : L ≠ sp := Spr.ne z1 nL
      refine lc_wka wk (fun i H' => But sp H1 H' ∧ Spr H' sp ∧ ∃ ys, H' L = some (.lst ys) ∧ Paired (Sim (fun b => H1 b = none ∧ b ≠ L) H' n) ys (ds.take i)) (fun i H' p => ?_) ⟨sb (same_upd nL), z1.same (same_upd nL), [], upd_same, .nil⟩ (fun i x H2 ex p => ?_) (fun H2 p => ?_)
      · rcases hx1 with z | z
        · exact (p.1 _ _ na z).trans z.symm
        · exact (p.1 _ _ na z).trans z.symm
      · obtain ⟨b2, z2, ys, hL, hy⟩ := p
        obtain ⟨d, ed, hd⟩ := Paired.at px1 ex
        have hi : i < xs.length := (List.getElem?_eq_some_iff.mp ex).1
        refine ⟨rfl, yesT ⟨_, rfl, _, rfl, sp, x, d, rfl, z2, Sim.keep (fun _ h => h) (fun b o nb e => b2 b o nb e) hd, fun H3 v3 b3 z3 h3 => ⟨ys, b3 _ _ nLs hL, ?_, ?_, ?_, _, upd_same, ?_⟩⟩⟩
        · have := Paired.len hy
          rw [List.length_take] at this
          exact small (by omega)
        · intro b o nb e
          rw [upd_ne (ne_of_none e nL)]
          exact b3 b o nb (b2 b o nb e)
        · obtain ⟨x1, x2, x3, hsp, rest⟩ := z3
          refine ⟨x1, x2, x3, ?_, rest⟩
          rw [upd_ne nLs.symm]
          exact hsp
        · have old : ∀ b o, (H1 b = none ∧ b ≠ L) → H2 b = some o → upd H3 L (.lst (ys ++ [v3])) b = some o := by
            intro b o nb e
            rw [upd_ne nb.2]
            refine b3 b o (fun z => ?_) e
            rw [z] at nb
            obtain ⟨_, _, _, hsp, _⟩ := z1
            rw [hsp] at nb
            cases nb.1
          rw [take_snoc ed]
          refine Paired.app (Paired.imp (fun _ _ z => Sim.keep (fun _ h => h) old z) hy) (.cons (Sim.keep (fun b nb => ?_) (fun b o nb e => ?_) h3) .nil)
          · exact ⟨b2.free z2 nb, fun z => by rw [z, hL] at nb; cases nb⟩
          · rw [upd_ne (fun z => by rw [z, hL] at nb; cases nb)]
            exact e
      · obtain ⟨b2, z2, ys, hL, hy⟩ := p
        rw [lx, List.take_length] at hy
        have ly := Paired.len hy
        refine ⟨_, rfl, sp, 2, rfl, z2, by decide, by decide, fun H3 r3 b3 z3 r30 r31 => ⟨rfl, _, rfl, ?_⟩⟩
        have hL3 := b3 _ _ nLs hL
        have hy3 : Paired (Sim (fun b => H b = none) H3 n) ys ds := Paired.imp (fun _ _ z => Sim.keep (fun b nb => fr1 b nb.1) (fun b o nb e => b3 b o (fun z => by
          rw [z] at nb
          obtain ⟨_, _, _, hsp, _⟩ := z1
          rw [hsp] at nb
          cases nb.1) e) z) hy
        have B3 : But sp H H3 := B1.trans (b2.trans b3)
        by_cases e : r3 = 0
        · subst e
          exact iteP (decide_eq_true rfl) ⟨_, rfl, q _ _ B3 z3 (.inr ⟨L, ys, ds, rfl, fr1 L nL, .inl hL3, rfl, hy3, ld⟩)⟩
        · refine iteN (decide_eq_false fun z => e (V.int.inj z)) ⟨_, rfl, L, ys, rfl, .inl ⟨.of hL3, fun p np => q _ _ (B3.trans (sb (same_upd np))) (z3.same (same_upd np)) (.inr ⟨p, ys, ds, rfl, B3.free z3 np, .inr upd_same, rfl, ?_, ld⟩)⟩⟩
          exact Paired.imp (fun _ _ z => Sim.keep (fun _ h => h) (fun _ _ _ e => same_upd np _ _ e) z) hy3
theorem ok_law_dressed (D : Df K mg "_law_dressed" s_law_dressed) (T : Tx mg) (G_law_draw : Has P w K mg base 1 "_law_draw" ["spring", "many"] sp_law_draw) : ∀ n, Has P w K mg base (n + 2) "_law_dressed" ["spring", "value"] (sp_law_dressed n)
  | 0 => step_law_dressed D T 0 G_law_draw (none_law_dressed D)
  | n + 1 => step_law_dressed D T (n + 1) G_law_draw (ok_law_dressed D T G_law_draw n)
end
end UP

set_option Elab.async false
set_option linter.all false
set_option maxRecDepth 100000
set_option maxHeartbeats 4000000
namespace UP
open PySem PySem.Spec PyProof.Rows L2
/-! ### waiting items one by one -/
def plS (ws : List Run) (k : Str) (n : Nat) : List Run := match ws with
  | [] => [(k, (n : Int))]
  | r :: t => if r.1 = k then (r :: t) ++ [(k, (n : Int))] else t
def plP (ws : List Run) (k : Str) (n : Nat) : List (Int × Int) := match ws with
  | [] => []
  | r :: _ => if r.1 = k then [] else [(r.2, (n : Int))]
def plA (ws : List Run) (n : Nat) : List Str → List Run
  | [] => ws
  | k :: t => plA (plS ws k n) (n + 1) t
def psR (ws : List Run) (n : Nat) : List Str → List (Int × Int)
  | [] => []
  | k :: t => plP ws k n ++ psR (plS ws k n) (n + 1) t
theorem plA_snoc : ∀ (l : List Str) (ws : List Run) (n : Nat) (k : Str), plA ws n (l ++ [k]) = plS (plA ws n l) k (n + l.length)
  | [], ws, n, k => rfl
  | x :: t, ws, n, k => by
    show plA (plS ws x n) (n + 1) (t ++ [k]) = plS (plA (plS ws x n) (n + 1) t) k (n + (x :: t).length)
    rw [plA_snoc t, List.length_cons, show n + 1 + t.length = n + (t.length + 1) by omega]
theorem psR_snoc : ∀ (l : List Str) (ws : List Run) (n : Nat) (k : Str), psR ws n (l ++ [k]) = psR ws n l ++ plP (plA ws n l) k (n + l.length)
  | [], ws, n, k => by
    show plP ws k n ++ [] = [] ++ plP ws k (n + 0)
    rw [List.append_nil, List.nil_append, Nat.add_zero]
  | x :: t, ws, n, k => by
    show plP ws x n ++ psR (plS ws x n) (n + 1) (t ++ [k]) = (plP ws x n ++ psR (plS ws x n) (n + 1) t) ++ plP (plA (plS ws x n) (n + 1) t) k (n + (x :: t).length)
    rw [psR_snoc t, List.length_cons, List.append_assoc, show n + 1 + t.length = n + (t.length + 1) by omega]
def plMs (ws : List Run) (ks : List Str) : List (List Run) := (List.range (ks.length + 1)).map fun m => plA ws 0 (ks.take m)
theorem plMs_snoc (ws : List Run) (l : List Str) (k : Str) : plMs ws (l ++ [k]) = plMs ws l ++ [plA ws 0 (l ++ [k])] := by
  unfold plMs
  rw [List.length_append, List.length_cons, List.length_nil, Nat.zero_add, List.range_succ, List.map_append]
  congr 1
  · refine List.map_congr_left fun m hm => ?_
    have : m ≤ l.length := by
      have := List.mem_range.mp hm
      omega
    rw [List.take_append_of_le_length this]
  · rw [List.map_singleton, List.take_of_length_le (by rw [List.length_append]; exact Nat.le_refl _)]
theorem plMs_nil (ws : List Run) : plMs ws [] = [ws] := rfl
theorem plMs_len (ws : List Run) (l : List Str) : (plMs ws l).length = l.length + 1 := by
  unfold plMs
  rw [List.length_map, List.length_range]
theorem plS_len (ws : List Run) (k : Str) (n : Nat) : (plS ws k n).length ≤ ws.length + 1 := by
  cases ws with
  | nil => exact Nat.le_refl _
  | cons r t =>
    show (if r.1 = k then (r :: t) ++ [(k, (n : Int))] else t).length ≤ _
    split
    · rw [List.length_append]
      exact Nat.le_refl _
    · rw [List.length_cons]
      omega
theorem plA_len : ∀ (l : List Str) (ws : List Run) (n : Nat), (plA ws n l).length ≤ ws.length + l.length
  | [], ws, n => Nat.le_refl _
  | k :: t, ws, n => by
    have h1 := plA_len t (plS ws k n) (n + 1)
    have h2 := plS_len ws k n
    show (plA (plS ws k n) (n + 1) t).length ≤ _
    rw [List.length_cons]
    omega
theorem plP_len (ws : List Run) (k : Str) (n : Nat) : (plP ws k n).length ≤ 1 := by
  cases ws with
  | nil => exact Nat.zero_le _
  | cons r t =>
    show (if r.1 = k then [] else [(r.2, (n : Int))]).length ≤ 1
    split <;> simp
theorem psR_len : ∀ (l : List Str) (ws : List Run) (n : Nat), (psR ws n l).length ≤ l.length
  | [], ws, n => Nat.le_refl _
  | k :: t, ws, n => by
    have h1 := psR_len t (plS ws k n) (n + 1)
    have h2 := plP_len ws k n
    show (plP ws k n ++ psR (plS ws k n) (n + 1) t).length ≤ _
    rw [List.length_append, List.length_cons]
    omega
theorem plS_kinds {ws : List Run} {k : Str} {n : Nat} (h : ∀ r ∈ ws, KindOk r.1) (hk : KindOk k) : ∀ r ∈ plS ws k n, KindOk r.1 := by
  intro r hr
  cases ws with
  | nil =>
    rw [List.mem_singleton.mp (show r ∈ [(k, (n : Int))] from hr)]
    exact hk
  | cons x t =>
    have hr : r ∈ (if x.1 = k then (x :: t) ++ [(k, (n : Int))] else t) := hr
    by_cases e : x.1 = k
    · rw [if_pos e] at hr
      rcases List.mem_append.mp hr with z | z
      · exact h r z
      · rw [List.mem_singleton.mp z]
        exact hk
    · rw [if_neg e] at hr
      exact h r (List.mem_cons_of_mem _ hr)
theorem plA_kinds : ∀ {l : List Str} {ws : List Run} {n : Nat}, (∀ r ∈ ws, KindOk r.1) → (∀ k ∈ l, KindOk k) → ∀ r ∈ plA ws n l, KindOk r.1
  | [], _, _, h, _ => h
  | k :: t, ws, n, h, hl => plA_kinds (l := t) (plS_kinds h (hl k (List.mem_cons_self ..))) fun x hx => hl x (List.mem_cons_of_mem _ hx)
def w0R : Option Run → List Run
  | none => []
  | some r => List.replicate r.2.toNat (r.1, -1)
def itR (rs : List Run) : List Str := rs.flatMap fun r => List.replicate r.2.toNat r.1
theorem itR_snoc (l : List Run) (r : Run) : itR (l ++ [r]) = itR l ++ List.replicate r.2.toNat r.1 := by
  unfold itR
  rw [List.flatMap_append]
  simp
def PV (H : Hp) (v : V) (p : Int × Int) : Prop := ∃ t, v = .ref t ∧ H t = some (.tup [.int p.1, .int p.2])
theorem PV.same {H H' : Hp} {v : V} {p : Int × Int} (s : Same H H') (h : PV H v p) : PV H' v p := by
  obtain ⟨t, e, h⟩ := h
  exact ⟨t, e, s _ _ h⟩
theorem PV.grow {H : Hp} {D : Addr} {acc acc' : List V} {v : V} {p : Int × Int} (hD : H D = some (.lst acc)) (h : PV H v p) : PV (upd H D (.lst acc')) v p := by
  obtain ⟨t, e, h⟩ := h
  refine ⟨t, e, ?_⟩
  rw [upd_ne (ne_of h hD (by intro q; cases q))]
  exact h
theorem Runs.grow {H : Hp} {D a : Addr} {acc acc' : List V} {ws : List Run} (hD : H D = some (.lst acc)) (n : a ≠ D) (h : Runs H a ws) : Runs (upd H D (.lst acc')) a ws := by
  obtain ⟨xs, hx, hp⟩ := h
  refine ⟨xs, ?_, prs_grow hD hp⟩
  rw [upd_ne n]
  exact hx
/-- a list of runs apart from two others -/
def WL (H : Hp) (M N : Addr) (v : V) (ws : List Run) : Prop := ∃ a, v = .ref a ∧ a ≠ M ∧ a ≠ N ∧ Runs H a ws
theorem WL.same {H H' : Hp} {M N : Addr} {v : V} {ws : List Run} (s : Same H H') (h : WL H M N v ws) : WL H' M N v ws := by
  obtain ⟨a, e, n1, n2, h⟩ := h
  exact ⟨a, e, n1, n2, h.same s⟩
/-- what the play keeps -/
structure Pl (H0 H : Hp) (W M N : Addr) (ws0 : List Run) (ks ls : List Str) : Prop where
  sm : Same H0 H
  wm : W ≠ M
  wn : W ≠ N
  wr : Runs H W (plA ws0 0 ls)
  ms : ∃ xs, H M = some (.lst xs) ∧ Paired (WL H M N) xs (plMs ws0 ks)
  ps : ∃ ys, H N = some (.lst ys) ∧ Paired (PV H) ys (psR ws0 0 ls)
theorem flat_one {α : Type} (x : α) : ∀ n : Nat, (List.replicate n [x]).flatten = List.replicate n x
  | 0 => rfl
  | n + 1 => by
    rw [List.replicate_succ, List.flatten_cons, flat_one x n]
    rfl
theorem paired_rep {α β : Type} {F : α → β → Prop} {a : α} {b : β} (h : F a b) : ∀ n : Nat, Paired F (List.replicate n a) (List.replicate n b)
  | 0 => .nil
  | n + 1 => .cons h (paired_rep h n)
theorem len_items {rs : List Run} (h : ∀ r ∈ rs, 1 ≤ r.2 ∧ r.2 ≤ 1000) : (itR rs).length ≤ 1000 * rs.length := by
  induction rs with
  | nil => exact Nat.le_refl _
  | cons r t ih =>
    have e : itR (r :: t) = List.replicate r.2.toNat r.1 ++ itR t := rfl
    have h1 := h r (List.mem_cons_self ..)
    have h2 := ih fun x hx => h x (List.mem_cons_of_mem _ hx)
    rw [e, List.length_append, List.length_replicate, List.length_cons]
    omega
end UP

set_option Elab.async false
set_option linter.all false
set_option maxRecDepth 100000
set_option maxHeartbeats 4000000
namespace UP
open PySem PySem.Spec PyProof.Rows L2
section
variable {P : Program} {w : World} {K : PySem.W.Frag} {mg : Str → Option Value} {base : Heap}
end
end UP

set_option Elab.async false
set_option linter.all false
set_option maxRecDepth 100000
set_option maxHeartbeats 4000000
namespace UP
open PySem PySem.Spec PyProof.Rows L2
/-! ### one arrival after the other -/
def stI (ks : List Str) (st : Option Run) : Option Run := ks.foldl (fun s k => stepR s k 1) st
theorem stI_app (l m : List Str) (st : Option Run) : stI (l ++ m) st = stI m (stI l st) := List.foldl_append ..
theorem step_same {r : Run} {k : Str} {c : Int} (h : r.1 = k) : stepR (some r) k c = some (k, r.2 + c) := if_pos h
theorem step_other {r : Run} {k : Str} {c : Int} (h : r.1 ≠ k) : stepR (some r) k c = if 0 < r.2 - c then some (r.1, r.2 - c) else if r.2 - c = 0 then none else some (k, -(r.2 - c)) := if_neg h
theorem step_step {s : Option Run} {k : Str} {c : Int} (h : PosO s) (hc : 1 ≤ c) : stepR (stepR s k 1) k c = stepR s k (1 + c) := by
  cases s with
  | none => exact step_same (r := (k, 1)) rfl
  | some r =>
    have r1 := h r rfl
    by_cases e : r.1 = k
    · rw [step_same e, step_same e, step_same (r := (k, r.2 + 1)) rfl]
      show some (k, r.2 + 1 + c) = _
      rw [Int.add_assoc]
    · rw [step_other e, step_other e]
      by_cases h1 : 0 < r.2 - 1
      · rw [if_pos h1, step_other (r := (r.1, r.2 - 1)) e]
        show (if 0 < r.2 - 1 - c then some (r.1, r.2 - 1 - c) else if r.2 - 1 - c = 0 then none else some (k, -(r.2 - 1 - c))) = _
        rw [show r.2 - 1 - c = r.2 - (1 + c) by omega]
      · have e2 : r.2 - 1 = 0 := by omega
        rw [if_neg h1, if_pos e2, if_neg (by omega), if_neg (by omega)]
        show some (k, c) = _
        rw [show -(r.2 - (1 + c)) = c by omega]
theorem it_step : ∀ (n : Nat) (s : Option Run) (k : Str), PosO s → stI (List.replicate (n + 1) k) s = stepR s k ((n : Int) + 1)
  | 0, s, k, _ => rfl
  | n + 1, s, k, h => by
    show stI (List.replicate (n + 1) k) (stepR s k 1) = _
    rw [it_step n _ k (stepR_pos h (by decide)), step_step h (by omega)]
    congr 1
    omega
theorem st_items : ∀ (rs : List Run) (st : Option Run), PosO st → (∀ r ∈ rs, 1 ≤ r.2) → stR rs st = stI (itR rs) st
  | [], st, _, _ => rfl
  | r :: t, st, h, k => by
    have c1 := k r (List.mem_cons_self ..)
    have e : itR (r :: t) = List.replicate r.2.toNat r.1 ++ itR t := rfl
    obtain ⟨n, hn⟩ : ∃ n : Nat, r.2.toNat = n + 1 := ⟨r.2.toNat - 1, by omega⟩
    rw [e, stI_app, hn, it_step n _ _ h, stR_cons, show ((n : Int) + 1) = r.2 by omega]
    exact st_items t _ (stepR_pos h c1) fun x hx => k x (List.mem_cons_of_mem _ hx)
theorem take_app {α : Type} : ∀ (l m : List α) (n : Nat), (l ++ m).take n = l.take n ++ m.take (n - l.length)
  | [], m, n => by
    rw [List.nil_append, List.take_nil, List.nil_append, List.length_nil, Nat.sub_zero]
  | x :: t, m, 0 => by
    rw [List.take_zero, List.take_zero, Nat.zero_sub, List.take_zero]
    rfl
  | x :: t, m, n + 1 => by
    rw [List.cons_append, List.take_succ_cons, take_app t m n, List.take_succ_cons, List.length_cons, Nat.add_sub_add_right]
    rfl
theorem it_app (l m : List Run) : itR (l ++ m) = itR l ++ itR m := List.flatMap_append ..
theorem cut_items (e : Int) : ∀ (rs : List Run) (b : Int), 0 ≤ b → (∀ r ∈ rs, 1 ≤ r.2) → itR (cutR 0 e b rs) = (itR rs).take (e - b).toNat
  | [], b, _, _ => by
    show ([] : List Str) = ([] : List Str).take _
    rw [List.take_nil]
  | r :: t, b, hb, k => by
    have c1 := k r (List.mem_cons_self ..)
    have ih := cut_items e t (b + r.2) (by omega) fun x hx => k x (List.mem_cons_of_mem _ hx)
    have e1 : cutR 0 e b (r :: t) = pieceR b 0 e r ++ cutR 0 e (b + r.2) t := rfl
    have e2 : itR (r :: t) = List.replicate r.2.toNat r.1 ++ itR t := rfl
    rw [e1, it_app, ih, e2, take_app, List.length_replicate, List.take_replicate, show (e - (b + r.2)).toNat = (e - b).toNat - r.2.toNat by omega]
    congr 1
    have es : sizeR b 0 e r.2 = (if b + r.2 < e then b + r.2 else e) - b := by
      unfold sizeR
      by_cases h0 : b > 0
      · rw [if_pos h0]
      · rw [if_neg h0, show b = 0 by omega]
    by_cases hs : 0 < sizeR b 0 e r.2
    · rw [show pieceR b 0 e r = [(r.1, sizeR b 0 e r.2)] from if_pos hs]
      show List.replicate (sizeR b 0 e r.2).toNat r.1 ++ [] = _
      rw [List.append_nil]
      congr 1
      rw [es] at hs ⊢
      split <;> omega
    · rw [show pieceR b 0 e r = [] from if_neg hs]
      rw [es] at hs
      rw [show min (e - b).toNat r.2.toNat = 0 by split at hs <;> omega]
      rfl
theorem len_it : ∀ (rs : List Run), (∀ r ∈ rs, 1 ≤ r.2) → ((itR rs).length : Int) = lenR rs
  | [], _ => rfl
  | r :: t, k => by
    have c1 := k r (List.mem_cons_self ..)
    have ih := len_it t fun x hx => k x (List.mem_cons_of_mem _ hx)
    have e2 : itR (r :: t) = List.replicate r.2.toNat r.1 ++ itR t := rfl
    rw [e2, List.length_append, List.length_replicate, lenR_cons]
    omega
/-! ### what is told of waiting items -/
def Uni (ws : List Run) : Prop := ∀ x ∈ ws, ∀ y ∈ ws, x.1 = y.1
theorem uni_plS {ws : List Run} {k : Str} {n : Nat} (h : Uni ws) : Uni (plS ws k n) := by
  cases ws with
  | nil =>
    intro x hx y hy
    rw [List.mem_singleton.mp (show x ∈ [(k, (n : Int))] from hx), List.mem_singleton.mp (show y ∈ [(k, (n : Int))] from hy)]
  | cons r t =>
    by_cases e : r.1 = k
    · rw [show plS (r :: t) k n = (r :: t) ++ [(k, (n : Int))] from if_pos e]
      have all : ∀ x ∈ (r :: t) ++ [(k, (n : Int))], x.1 = k := by
        intro x hx
        rcases List.mem_append.mp hx with z | z
        · rw [h x z r (List.mem_cons_self ..)]
          exact e
        · rw [List.mem_singleton.mp z]
      intro x hx y hy
      rw [all x hx, all y hy]
    · rw [show plS (r :: t) k n = t from if_neg e]
      exact fun x hx y hy => h x (List.mem_cons_of_mem _ hx) y (List.mem_cons_of_mem _ hy)
theorem told_plS {ws : List Run} {k : Str} {n : Nat} (h : Uni ws) : toldR (plS ws k n) = stepR (toldR ws) k 1 := by
  cases ws with
  | nil => rfl
  | cons r t =>
    by_cases e : r.1 = k
    · rw [show plS (r :: t) k n = (r :: t) ++ [(k, (n : Int))] from if_pos e]
      show some (r.1, (((r :: t) ++ [(k, (n : Int))]).length : Int)) = stepR (some (r.1, ((r :: t).length : Int))) k 1
      rw [step_same (r := (r.1, ((r :: t).length : Int))) e, List.length_append, e]
      show some (k, (((r :: t).length + 1 : Nat) : Int)) = some (k, ((r :: t).length : Int) + 1)
      rw [Int.natCast_add]
      rfl
    · rw [show plS (r :: t) k n = t from if_neg e]
      show toldR t = stepR (some (r.1, ((r :: t).length : Int))) k 1
      rw [step_other (r := (r.1, ((r :: t).length : Int))) e]
      cases t with
      | nil => rfl
      | cons x u =>
        have ex : x.1 = r.1 := h x (List.mem_cons_of_mem _ (List.mem_cons_self ..)) r (List.mem_cons_self ..)
        show some (x.1, ((x :: u).length : Int)) = if 0 < ((r :: x :: u).length : Int) - 1 then some (r.1, ((r :: x :: u).length : Int) - 1) else _
        rw [List.length_cons, List.length_cons, List.length_cons, if_pos (by omega), ex]
        congr 2
        omega
theorem told_plA : ∀ (l : List Str) (ws : List Run) (n : Nat), Uni ws → toldR (plA ws n l) = stI l (toldR ws)
  | [], _, _, _ => rfl
  | k :: t, ws, n, h => by
    show toldR (plA (plS ws k n) (n + 1) t) = stI t (stepR (toldR ws) k 1)
    rw [told_plA t _ _ (uni_plS h), told_plS h]
theorem uni_w0 (st : Option Run) : Uni (w0R st) := by
  cases st with
  | none => intro x hx; cases hx
  | some r =>
    intro x hx y hy
    rw [List.eq_of_mem_replicate hx, List.eq_of_mem_replicate hy]
theorem told_w0 {st : Option Run} (h : PosO st) : toldR (w0R st) = st := by
  cases st with
  | none => rfl
  | some r =>
    have r1 := h r rfl
    obtain ⟨n, hn⟩ : ∃ n : Nat, r.2.toNat = n + 1 := ⟨r.2.toNat - 1, by omega⟩
    show toldR (List.replicate r.2.toNat (r.1, (-1 : Int))) = some r
    rw [hn, List.replicate_succ]
    show some (r.1, (((r.1, (-1 : Int)) :: List.replicate n (r.1, (-1 : Int))).length : Int)) = some r
    rw [List.length_cons, List.length_replicate, show ((n + 1 : Nat) : Int) = r.2 by omega]
/-! ### all counts multiplied -/
def scO (t : Int) (st : Option Run) : Option Run := st.map fun r => (r.1, r.2 * t)
theorem lt_sc {a b t : Int} (ht : 0 < t) : a * t < b * t ↔ a < b :=
  ⟨fun h => by
    by_cases z : a < b
    · exact z
    · have := Int.mul_le_mul_of_nonneg_right (show b ≤ a by omega) (Int.le_of_lt ht)
      omega, fun h => Int.mul_lt_mul_of_pos_right h ht⟩
theorem size_sc {b s e c t : Int} (ht : 0 < t) : sizeR (b * t) (s * t) (e * t) (c * t) = sizeR b s e c * t := by
  unfold sizeR
  rw [← Int.add_mul, Int.sub_mul]
  congr 1
  · by_cases h : b + c < e
    · rw [if_pos h, if_pos ((lt_sc ht).mpr h)]
    · rw [if_neg h, if_neg fun z => h ((lt_sc ht).mp z)]
  · by_cases h : b > s
    · rw [if_pos h, if_pos ((lt_sc ht).mpr h)]
    · rw [if_neg h, if_neg fun z => h ((lt_sc ht).mp z)]
theorem pos_sc {a t : Int} (ht : 0 < t) : 0 < a * t ↔ 0 < a := by
  have := lt_sc (a := 0) (b := a) ht
  rw [Int.zero_mul] at this
  exact this
theorem piece_sc {b s e t : Int} {r : Run} (ht : 0 < t) : pieceR (b * t) (s * t) (e * t) (r.1, r.2 * t) = scR t (pieceR b s e r) := by
  unfold pieceR
  show (if 0 < sizeR (b * t) (s * t) (e * t) (r.2 * t) then [(r.1, sizeR (b * t) (s * t) (e * t) (r.2 * t))] else []) = _
  rw [size_sc ht]
  by_cases h : 0 < sizeR b s e r.2
  · rw [if_pos h, if_pos ((pos_sc ht).mpr h)]
    rfl
  · rw [if_neg h, if_neg fun z => h ((pos_sc ht).mp z)]
    rfl
theorem cut_sc {s e t : Int} (ht : 0 < t) : ∀ (rs : List Run) (b : Int), cutR (s * t) (e * t) (b * t) (scR t rs) = scR t (cutR s e b rs)
  | [], _ => rfl
  | r :: u, b => by
    have ih := cut_sc (s := s) (e := e) ht u (b + r.2)
    show pieceR (b * t) (s * t) (e * t) (r.1, r.2 * t) ++ cutR (s * t) (e * t) (b * t + r.2 * t) (scR t u) = scR t (pieceR b s e r ++ cutR s e (b + r.2) u)
    rw [← Int.add_mul, ih, piece_sc ht]
    unfold scR
    rw [List.map_append]
theorem step_sc {st : Option Run} {k : Str} {c t : Int} (ht : 0 < t) : stepR (scO t st) k (c * t) = scO t (stepR st k c) := by
  cases st with
  | none => rfl
  | some r =>
    show stepR (some (r.1, r.2 * t)) k (c * t) = _
    by_cases e : r.1 = k
    · rw [step_same (r := (r.1, r.2 * t)) e, step_same e]
      show some (k, r.2 * t + c * t) = some (k, (r.2 + c) * t)
      rw [Int.add_mul]
    · rw [step_other (r := (r.1, r.2 * t)) e, step_other e]
      show (if 0 < r.2 * t - c * t then some (r.1, r.2 * t - c * t) else if r.2 * t - c * t = 0 then none else some (k, -(r.2 * t - c * t))) = _
      rw [← Int.sub_mul]
      by_cases h : 0 < r.2 - c
      · rw [if_pos h, if_pos ((pos_sc ht).mpr h)]
        rfl
      · rw [if_neg h, if_neg fun z => h ((pos_sc ht).mp z)]
        by_cases h2 : r.2 - c = 0
        · rw [if_pos h2, h2, Int.zero_mul, if_pos rfl]
          rfl
        · have h3 : (r.2 - c) * t ≠ 0 := Int.mul_ne_zero h2 (by omega)
          rw [if_neg h2, if_neg h3]
          show some (k, -((r.2 - c) * t)) = some (k, -(r.2 - c) * t)
          rw [Int.neg_mul]
theorem st_sc {t : Int} (ht : 0 < t) : ∀ (rs : List Run) (st : Option Run), stR (scR t rs) (scO t st) = scO t (stR rs st)
  | [], _ => rfl
  | r :: u, st => by
    show stR (scR t u) (stepR (scO t st) r.1 (r.2 * t)) = scO t (stR u (stepR st r.1 r.2))
    rw [step_sc ht, st_sc ht u]
theorem len_sc {t : Int} : ∀ (rs : List Run), lenR (scR t rs) = lenR rs * t
  | [] => by
    show (0 : Int) = 0 * t
    rw [Int.zero_mul]
  | r :: u => by
    show lenR ((r.1, r.2 * t) :: scR t u) = _
    rw [lenR_cons, lenR_cons, len_sc u, Int.add_mul]
/-- the multiplied state at a multiplied moment -/
theorem whole_sc {t : Int} {rs : List Run} {st : Option Run} {p : Nat} (ht : 0 < t) (h : PosO st) (k : ∀ r ∈ rs, 1 ≤ r.2) :
    stR (cutR 0 ((p : Int) * t) 0 (scR t rs)) (scO t st) = scO t (toldR (plA (w0R st) 0 ((itR rs).take p))) := by
  have e := cut_sc (s := 0) (e := (p : Int)) ht rs 0
  rw [Int.zero_mul] at e
  rw [e, st_sc ht, told_plA _ _ _ (uni_w0 st), told_w0 h, st_items _ _ h cutR_pos, cut_items _ _ _ (Int.le_refl _) k, Int.sub_zero, Int.toNat_natCast]
end UP

set_option Elab.async false
set_option linter.all false
set_option maxRecDepth 100000
set_option maxHeartbeats 4000000
namespace UP
open PySem PySem.Spec PyProof.Rows L2
theorem room70 {A : Around} {k : Nat} (hr : Room k A) : A.units + 70 < cLine := by
  have := hr.un
  omega
theorem call_list_ofK {X : Cx} {K : PySem.W.Frag} (h : X.K = K) : CallR X (.type "list") (fun xs H Q => ∃ p ys, xs = [.ref p] ∧ (SqL K H p ys ∨ SqT K H p ys) ∧ ∀ l, H l = none → Q (.ref l) (upd H l (.lst ys))) := by
  subst h
  exact call_list_of
/-! ### data that a repr takes -/
structure Nice (w n : Nat) (d : PyData) : Prop where
  can : d.canLay0 = true
  dep : d.depth ≤ n
  sho : d.showable = true
  lea : d.leavesShort 100 = true
  wei : d.weight ≤ w
theorem Nice.mono {w w' n n' : Nat} {d : PyData} (h : Nice w n d) (h1 : w ≤ w') (h2 : n ≤ n') : Nice w' n' d := ⟨h.can, Nat.le_trans h.dep h2, h.sho, h.lea, Nat.le_trans h.wei h1⟩
theorem Nice.fits {w n : Nat} {d : PyData} (h : Nice w n d) (hw : w ≤ 150000) (hn : n ≤ 64) : d.showable = true ∧ SeqAt.shaped d = true ∧ d.shown.length ≤ sizeLine := by
  refine ⟨h.sho, ?_, ?_⟩
  · unfold SeqAt.shaped
    rw [h.can]
    have := h.dep
    exact decide_eq_true (by omega)
  · have h1 := PyData.shown_le 100 (by decide) d h.lea
    have h2 := h.wei
    have h3 : d.shown.length ≤ 16000000 := by omega
    exact Nat.le_trans h3 (by decide)
theorem nice_none : Nice 0 0 .none := ⟨rfl, Nat.le_refl _, rfl, rfl, Nat.le_refl _⟩
theorem nice_str {s : Str} (h : KindOk s) : Nice 8 0 (.str s) := by
  refine ⟨?_, Nat.le_refl _, rfl, ?_, h.2.1⟩
  · rw [PyData.canLay0]
    exact h.str
  · rw [PyData.leavesShort, List.all_eq_true]
    intro c hc
    have := h.2.2 c hc
    exact decide_eq_true (by omega)
theorem nice_int {i : Int} (h : i.natAbs < 10 ^ 60) : Nice 201 0 (.int i) := by
  have h2 : i.natAbs < 2 ^ 200 := Nat.lt_of_lt_of_le h (by decide)
  have h3 : i.natAbs.log2 < 200 := by
    by_cases z : i.natAbs = 0
    · rw [z]
      decide
    · exact (Nat.log2_lt z).mpr h2
  refine ⟨by rw [PyData.canLay0], Nat.le_refl _, ?_, ?_, ?_⟩
  · rw [PyData.showable]
    exact decide_eq_true (by omega)
  · rw [PyData.leavesShort]
    refine decide_eq_true ?_
    have e := int_text_length_le10 (k := 60) (by decide) h
    show (Str.ofString (toString i)).length ≤ 100
    rw [PySem.ofString_length]
    omega
  · rw [PyData.weight]
    split <;> omega
theorem nice_items {w n : Nat} : ∀ {ds : List PyData}, (∀ d ∈ ds, Nice w n d) → PyData.canLayAll0 ds = true ∧ PyData.depthAll ds ≤ n ∧ PyData.showableAll ds = true ∧ PyData.leavesShortAll 100 ds = true ∧ PyData.weightAll ds ≤ (w + 1) * ds.length
  | [], _ => ⟨rfl, Nat.zero_le _, rfl, rfl, Nat.zero_le _⟩
  | d :: t, h => by
    have h1 := h d (List.mem_cons_self ..)
    obtain ⟨a, b, c, e, f⟩ := nice_items (ds := t) fun x hx => h x (List.mem_cons_of_mem _ hx)
    refine ⟨?_, ?_, ?_, ?_, ?_⟩
    · rw [PyData.canLayAll0, h1.can, a]
      rfl
    · rw [PyData.depthAll]
      exact Nat.max_le.mpr ⟨h1.dep, b⟩
    · rw [PyData.showableAll, h1.sho, c]
      rfl
    · rw [PyData.leavesShortAll, h1.lea, e]
      rfl
    · have h2 := h1.wei
      rw [PyData.weightAll, List.length_cons, Nat.mul_succ]
      omega
theorem nice_list {w n : Nat} {ds : List PyData} (h : ∀ d ∈ ds, Nice w n d) : Nice ((w + 1) * ds.length) (n + 1) (.list ds) := by
  obtain ⟨a, b, c, e, f⟩ := nice_items h
  exact ⟨by rw [PyData.canLay0]; exact a, by rw [PyData.depth]; omega, by rw [PyData.showable]; exact c, by rw [PyData.leavesShort]; exact e, by rw [PyData.weight]; exact f⟩
theorem nice_tup {w n : Nat} {ds : List PyData} (h : ∀ d ∈ ds, Nice w n d) : Nice ((w + 1) * ds.length) (n + 1) (.tuple ds) := by
  obtain ⟨a, b, c, e, f⟩ := nice_items h
  exact ⟨by rw [PyData.canLay0]; exact a, by rw [PyData.depth]; omega, by rw [PyData.showable]; exact c, by rw [PyData.leavesShort]; exact e, by rw [PyData.weight]; exact f⟩
/-- v stands for d at H and at every heap that keeps H -/
def DpS (K : PySem.W.Frag) (H : Hp) (v : V) (d : PyData) : Prop := ∀ H', Same H H' → Dp K H' v d
theorem DpS.same {K : PySem.W.Frag} {H H' : Hp} {v : V} {d : PyData} (s : Same H H') (h : DpS K H v d) : DpS K H' v d := fun H2 s2 => h H2 (s.trans s2)
theorem dps_all {K : PySem.W.Frag} {H : Hp} {F : PyData → Prop} : ∀ {xs : List V}, (∀ x ∈ xs, ∃ d, DpS K H x d ∧ F d) → ∃ ds, (∀ H', Same H H' → DpAll K H' xs ds) ∧ ds.length = xs.length ∧ ∀ d ∈ ds, F d
  | [], _ => ⟨[], fun _ _ => .nil, rfl, fun d h => by cases h⟩
  | x :: t, h => by
    obtain ⟨d, h1, h2⟩ := h x (List.mem_cons_self ..)
    obtain ⟨ds, a, b, c⟩ := dps_all (xs := t) fun y hy => h y (List.mem_cons_of_mem _ hy)
    refine ⟨d :: ds, fun H' s => .cons (h1 H' s) (a H' s), congrArg Nat.succ b, fun z hz => ?_⟩
    rcases List.mem_cons.mp hz with e | e
    · rw [e]
      exact h2
    · exact c z e
theorem dps_seq {K : PySem.W.Frag} {H : Hp} {a : Addr} {xs : List V} {w n : Nat} (hx : Sq2 H a xs) (h : ∀ x ∈ xs, ∃ d, DpS K H x d ∧ Nice w n d) : ∃ d, DpS K H (.ref a) d ∧ Nice ((w + 1) * xs.length) (n + 1) d := by
  obtain ⟨ds, h1, h2, h3⟩ := dps_all h
  rcases hx with z | z
  · exact ⟨.list ds, fun H' s => .lst (.of (s _ _ z)) (h1 H' s), by rw [← h2]; exact nice_list h3⟩
  · exact ⟨.tuple ds, fun H' s => .tup (.of (s _ _ z)) (h1 H' s), by rw [← h2]; exact nice_tup h3⟩
theorem dps_run {K : PySem.W.Frag} {H : Hp} {v : V} {r : Run} (h : RunG H v r) (k : KindOk r.1) (c : r.2.natAbs < 10 ^ 60) : ∃ d, DpS K H v d ∧ Nice 404 1 d := by
  obtain ⟨t, rfl, h⟩ := h
  have := dps_seq (K := K) (w := 201) (n := 0) h fun x hx => by
    rcases List.mem_cons.mp hx with e | e
    · rw [e]
      exact ⟨.str r.1, fun _ _ => .str _, (nice_str k).mono (by decide) (Nat.le_refl _)⟩
    · rw [List.mem_singleton.mp e]
      exact ⟨.int r.2, fun _ _ => .int _, nice_int c⟩
  exact this
theorem dps_runs {K : PySem.W.Frag} {H : Hp} {v : V} {rs : List Run} (h : RunsG H v rs) (k : ∀ r ∈ rs, KindOk r.1 ∧ r.2.natAbs < 10 ^ 60) (l : rs.length ≤ 100) : ∃ d, DpS K H v d ∧ Nice 41000 2 d := by
  obtain ⟨a, xs, rfl, hx, hp⟩ := h
  have lx : xs.length = rs.length := Paired.len hp
  obtain ⟨d, h1, h2⟩ := dps_seq (K := K) (w := 404) (n := 1) hx fun x hx => by
    obtain ⟨i, hi, e⟩ := List.mem_iff_getElem.mp hx
    obtain ⟨r, er, hr⟩ := Paired.at hp (List.getElem?_eq_getElem hi)
    rw [e] at hr
    have := k r (List.mem_of_getElem? er)
    exact dps_run hr this.1 this.2
  exact ⟨d, h1, h2.mono (by rw [lx]; omega) (Nat.le_refl _)⟩
theorem dps_st {K : PySem.W.Frag} {H : Hp} {v : V} {st : Option Run} (h : StG H v st) (k : ∀ r, st = some r → KindOk r.1 ∧ r.2.natAbs < 10 ^ 60) : ∃ d, DpS K H v d ∧ Nice 41000 2 d := by
  cases st with
  | none =>
    cases h
    exact ⟨.none, fun _ _ => .non, nice_none.mono (by decide) (by decide)⟩
  | some r =>
    obtain ⟨d, h1, h2⟩ := dps_run (K := K) h (k r rfl).1 (k r rfl).2
    exact ⟨d, h1, h2.mono (by decide) (by decide)⟩
theorem dps_two {K : PySem.W.Frag} {H : Hp} {a : Addr} {x y : V} (h : H a = some (.lst [x, y])) (hx : ∃ d, DpS K H x d ∧ Nice 41000 2 d) (hy : ∃ d, DpS K H y d ∧ Nice 41000 2 d) : ∃ d, DpS K H (.ref a) d ∧ Nice 82002 3 d := by
  have := dps_seq (K := K) (a := a) (xs := [x, y]) (w := 41000) (n := 2) (.inl h) fun z hz => by
    rcases List.mem_cons.mp hz with e | e
    · rw [e]
      exact hx
    · rw [List.mem_singleton.mp e]
      exact hy
  exact this
/-! ### dressed and undressed -/
def dP (r : Run) : PyData := .list [.str r.1, .int r.2]
def dSq (rs : List Run) : PyData := .list (rs.map dP)
def dSt : Option Run → PyData
  | none => .none
  | some r => dP r
theorem sim_pair {N : Addr → Prop} {H : Hp} {n : Nat} (r : Run) : Paired (Sim N H n) [V.str r.1, V.int r.2] [PyData.str r.1, PyData.int r.2] := .cons (Sim.dsc (.inr (.inr (.inr ⟨_, rfl, rfl⟩)))) (.cons (Sim.dsc (.inr (.inr (.inl ⟨_, rfl, rfl⟩)))) .nil)
theorem sim_run {H : Hp} {sp : Addr} {v : V} {r : Run} {n : Nat} (z : Spr H sp) (h : RunV H v r) : Sim (· ≠ sp) H (n + 1) v (dP r) := by
  obtain ⟨t, rfl, h⟩ := h
  obtain ⟨_, _, _, hs, _⟩ := z
  exact .inr ⟨t, _, _, rfl, ne_of h hs (by intro q; cases q), .inr h, rfl, sim_pair r, Nat.le_of_ble_eq_true rfl⟩
theorem sim_seq {H : Hp} {sp a : Addr} {rs : List Run} (z : Spr H sp) (h : Runs H a rs) (l : rs.length ≤ 1000) : Sim (· ≠ sp) H 2 (.ref a) (dSq rs) := by
  have na := Runs.ne z h
  obtain ⟨xs, hx, hp⟩ := h
  refine .inr ⟨a, xs, _, rfl, na, .inl hx, rfl, ?_, by rw [List.length_map]; exact l⟩
  have gen : ∀ {xs : List V} {rs : List Run}, Paired (RunV H) xs rs → Paired (Sim (· ≠ sp) H 1) xs (rs.map dP) := by
    intro xs rs h
    induction h with
    | nil => exact .nil
    | cons h _ ih => exact .cons (sim_run z h) ih
  exact gen hp
theorem sim_st {H : Hp} {sp : Addr} {v : V} {st : Option Run} (z : Spr H sp) (h : StV H v st) : Sim (· ≠ sp) H 2 v (dSt st) := by
  cases st with
  | none =>
    cases h
    exact .inl (.inl ⟨rfl, rfl⟩)
  | some r => exact sim_run z h
theorem sim_one {N : Addr → Prop} {H : Hp} {n : Nat} {v : V} {r : Run} (h : Sim N H (n + 1) v (dP r)) : RunG H v r := by
  rcases h with h | ⟨a, xs, ds, rfl, _, hx, e, p, _⟩
  · exact (dsc_lst h).elim
  · cases e
    have scal : ∀ {m : Nat} {x : V} {s : Str}, Sim N H m x (.str s) → x = .str s := by
      intro m x s h
      have h : Dsc x (.str s) := by
        cases m with
        | zero => exact h
        | succ m =>
          rcases h with h | ⟨_, _, _, _, _, _, e, _⟩
          · exact h
          · cases e
      rcases h with ⟨_, e⟩ | ⟨_, _, e⟩ | ⟨_, _, e⟩ | ⟨y, e1, e⟩ <;> cases e
      exact e1
    have scai : ∀ {m : Nat} {x : V} {s : Int}, Sim N H m x (.int s) → x = .int s := by
      intro m x s h
      have h : Dsc x (.int s) := by
        cases m with
        | zero => exact h
        | succ m =>
          rcases h with h | ⟨_, _, _, _, _, _, e, _⟩
          · exact h
          · cases e
      rcases h with ⟨_, e⟩ | ⟨_, _, e⟩ | ⟨y, e1, e⟩ | ⟨_, _, e⟩ <;> cases e
      exact e1
    cases p with
    | cons h1 p1 =>
      cases p1 with
      | cons h2 p2 =>
        cases p2
        rw [scal h1, scai h2] at hx
        exact ⟨a, rfl, hx⟩
theorem sim_all {N : Addr → Prop} {H : Hp} : ∀ (rs : List Run) (xs : List V), Paired (Sim N H 1) xs (rs.map dP) → Paired (RunG H) xs rs
  | [], xs, h => by
    cases h
    exact .nil
  | r :: t, xs, h => by
    cases h with
    | cons h1 h2 => exact .cons (sim_one h1) (sim_all t _ h2)
theorem sim_runs {N : Addr → Prop} {H : Hp} {v : V} {rs : List Run} (h : Sim N H 2 v (dSq rs)) : RunsG H v rs := by
  rcases h with h | ⟨a, xs, ds, rfl, _, hx, e, p, _⟩
  · exact (dsc_lst h).elim
  · cases e
    refine ⟨a, xs, rfl, hx, ?_⟩
    exact sim_all rs xs p
theorem sim_stg {N : Addr → Prop} {H : Hp} {v : V} {st : Option Run} (h : Sim N H 2 v (dSt st)) : StG H v st := by
  cases st with
  | none =>
    rcases h with h | ⟨_, _, _, _, _, _, e, _⟩
    · rcases h with ⟨e, _⟩ | ⟨_, _, e⟩ | ⟨_, _, e⟩ | ⟨_, _, e⟩
      · exact e
      all_goals cases e
    · cases e
  | some r => exact sim_one h
/-! ### one by one -/
theorem at_moment {rs : List Run} {st : Option Run} {m : Nat} (h : PosO st) (k : ∀ r ∈ rs, 1 ≤ r.2) : stR (cutR 0 (m : Int) 0 rs) st = toldR (plA (w0R st) 0 ((itR rs).take m)) := by
  rw [told_plA _ _ _ (uni_w0 st), told_w0 h, st_items _ _ h cutR_pos, cut_items _ _ _ (Int.le_refl _) k, Int.sub_zero, Int.toNat_natCast]
theorem at_end {rs : List Run} {st : Option Run} (h : PosO st) (k : ∀ r ∈ rs, 1 ≤ r.2) : stR rs st = toldR (plA (w0R st) 0 (itR rs)) := by
  rw [told_plA _ _ _ (uni_w0 st), told_w0 h, st_items _ _ h k]
theorem plMs_get (ws : List Run) (ks : List Str) {n : Nat} (h : n ≤ ks.length) : (plMs ws ks)[n]? = some (plA ws 0 (ks.take n)) := by
  unfold plMs
  rw [List.getElem?_map, List.getElem?_range (by omega)]
  rfl
def dO : Option Run → PyData
  | none => .none
  | some r => dRun r
theorem dt_st {H : Hp} {v : V} {st : Option Run} {n : Nat} (h : StV H v st) : Dt H (n + 1) v (dO st) := by
  cases st with
  | none =>
    cases h
    exact .inl (.inl ⟨rfl, rfl⟩)
  | some r =>
    obtain ⟨t, rfl, h⟩ := h
    refine .inr (.inr ⟨t, _, _, rfl, h, rfl, .cons ?_ (.cons ?_ .nil), Nat.le_of_ble_eq_true rfl⟩)
    · cases n with
      | zero => exact .inr (.inr (.inr ⟨_, rfl, rfl⟩))
      | succ m => exact .inl (.inr (.inr (.inr ⟨_, rfl, rfl⟩)))
    · cases n with
      | zero => exact .inr (.inr (.inl ⟨_, rfl, rfl⟩))
      | succ m => exact .inl (.inr (.inr (.inl ⟨_, rfl, rfl⟩)))
theorem w0_len {st : Option Run} (h : ∀ r, st = some r → r.2 ≤ 1000) : (w0R st).length ≤ 1000 := by
  cases st with
  | none => exact Nat.zero_le _
  | some r =>
    have := h r rfl
    show (List.replicate r.2.toNat (r.1, (-1 : Int))).length ≤ 1000
    rw [List.length_replicate]
    omega
theorem w0_kinds {st : Option Run} (h : StOk st) : ∀ r ∈ w0R st, KindOk r.1 := by
  cases st with
  | none => intro r h; cases h
  | some x =>
    intro r hr
    rw [List.eq_of_mem_replicate hr]
    exact (h x rfl).1
theorem it_kinds {rs : List Run} (h : ∀ r ∈ rs, KindOk r.1) : ∀ k ∈ itR rs, KindOk k := by
  intro k hk
  obtain ⟨r, h1, h2⟩ := List.mem_flatMap.mp hk
  rw [List.eq_of_mem_replicate h2]
  exact h r h1
end UP

set_option Elab.async false
set_option linter.all false
set_option maxRecDepth 100000
set_option maxHeartbeats 4000000
namespace UP
open PySem PySem.Spec PyProof.Rows L2
theorem paired_snoc {α β : Type} {F : α → β → Prop} : ∀ {xs : List α} (l : List β) (y : β), Paired F xs (l ++ [y]) → ∃ xs0 x, xs = xs0 ++ [x] ∧ Paired F xs0 l ∧ F x y
  | _, [], y, h => by
    cases h with
    | cons h1 h2 =>
      cases h2
      exact ⟨[], _, rfl, .nil, h1⟩
  | _, z :: l, y, h => by
    cases h with
    | cons h1 h2 =>
      obtain ⟨xs0, x, e, h3, h4⟩ := paired_snoc l y h2
      exact ⟨_ :: xs0, x, by rw [e]; rfl, .cons h1 h3, h4⟩
theorem set_last {α : Type} : ∀ (l : List α) (x y : α), (l ++ [x]).set l.length y = l ++ [y]
  | [], _, _ => rfl
  | z :: l, x, y => congrArg (z :: ·) (set_last l x y)
theorem ixN_last {n : Nat} : ixN (n + 1) (-1) = some n := by
  unfold ixN
  simp
  omega
/-! ### one more run -/
def addR (rs : List Run) (r : Run) : List Run := match rs.getLast? with
  | none => [r]
  | some l => if l.1 = r.1 then rs.dropLast ++ [(r.1, l.2 + r.2)] else rs ++ [r]
def joinR (rs cs : List Run) : List Run := cs.foldl addR rs
theorem joinR_snoc (rs cs : List Run) (r : Run) : joinR rs (cs ++ [r]) = addR (joinR rs cs) r := by
  unfold joinR
  rw [List.foldl_append]
  rfl
theorem addR_len (rs : List Run) (r : Run) : (addR rs r).length ≤ rs.length + 1 := by
  unfold addR
  split
  · exact Nat.le_add_left _ _
  · split
    · rw [List.length_append, List.length_dropLast]
      simp only [List.length_cons, List.length_nil]
      omega
    · rw [List.length_append]
      exact Nat.le_refl _
theorem joinR_len : ∀ (cs rs : List Run), (joinR rs cs).length ≤ rs.length + cs.length
  | [], _ => Nat.le_refl _
  | c :: t, rs => by
    have h1 := joinR_len t (addR rs c)
    have h2 := addR_len rs c
    show (joinR (addR rs c) t).length ≤ _
    rw [List.length_cons]
    omega
theorem RunV.butL {H H' : Hp} {p : Addr} {xs : List V} {v : V} {r : Run} (hp : H p = some (.lst xs)) (b : But p H H') (h : RunV H v r) : RunV H' v r := by
  obtain ⟨t, e, h⟩ := h
  exact ⟨t, e, b _ _ (ne_of h hp (by intro q; cases q)) h⟩
section
variable {P : Program} {w : World} {K : PySem.W.Frag} {mg : Str → Option Value} {base : Heap}
end
end UP

set_option Elab.async false
set_option linter.all false
set_option maxRecDepth 100000
set_option maxHeartbeats 4000000
namespace UP
open PySem PySem.Spec PyProof.Rows L2
def runR (ks : List Str) : List Run := ks.foldl (fun rs k => addR rs (k, 1)) []
theorem runR_snoc (ks : List Str) (k : Str) : runR (ks ++ [k]) = addR (runR ks) (k, 1) := by
  unfold runR
  rw [List.foldl_append]
  rfl
theorem runR_len (ks : List Str) : (runR ks).length ≤ ks.length := by
  have gen : ∀ (ks : List Str) (rs : List Run), (ks.foldl (fun rs k => addR rs (k, 1)) rs).length ≤ rs.length + ks.length := by
    intro ks
    induction ks with
    | nil => intro rs; exact Nat.le_refl _
    | cons k t ih =>
      intro rs
      have h1 := ih (addR rs (k, 1))
      have h2 := addR_len rs (k, 1)
      show (t.foldl (fun rs k => addR rs (k, 1)) (addR rs (k, 1))).length ≤ _
      rw [List.length_cons]
      omega
  have := gen ks []
  rw [List.length_nil, Nat.zero_add] at this
  exact this
section
variable {P : Program} {w : World} {K : PySem.W.Frag} {mg : Str → Option Value} {base : Heap}
end
end UP

set_option Elab.async false
set_option linter.all false
set_option maxRecDepth 100000
set_option maxHeartbeats 4000000
namespace UP
open PySem PySem.Spec PyProof.Rows L2
theorem Alt.tail {r : Run} {t : List Run} (h : Alt (r :: t)) : Alt t := fun i x y hx hy => h (i + 1) x y hx hy
theorem addR_new {rs : List Run} {r : Run} (h : ∀ l, rs.getLast? = some l → l.1 ≠ r.1) : addR rs r = rs ++ [r] := by
  unfold addR
  cases e : rs.getLast? with
  | none =>
    rw [List.getLast?_eq_none_iff.mp e]
    rfl
  | some l => exact if_neg (h l e)
theorem addR_more (R : List Run) (l r : Run) (h : l.1 = r.1) : addR (R ++ [l]) r = R ++ [(r.1, l.2 + r.2)] := by
  unfold addR
  rw [List.getLast?_concat, List.dropLast_concat]
  exact if_pos h
theorem join_alt : ∀ (cs rs : List Run), Alt cs → (∀ l c, rs.getLast? = some l → cs.head? = some c → l.1 ≠ c.1) → joinR rs cs = rs ++ cs
  | [], rs, _, _ => by
    rw [List.append_nil]
    rfl
  | c :: t, rs, a, h => by
    show joinR (addR rs c) t = rs ++ c :: t
    rw [addR_new fun l hl => h l c hl rfl, join_alt t (rs ++ [c]) a.tail (fun l d hl hd => ?_), List.append_assoc]
    · rfl
    · rw [List.getLast?_concat] at hl
      cases hl
      cases t with
      | nil => cases hd
      | cons e u =>
        cases hd
        exact a 0 _ _ rfl rfl
theorem join_more (R : List Run) (l c : Run) (t : List Run) (a : Alt (c :: t)) (h : l.1 = c.1) : joinR (R ++ [l]) (c :: t) = R ++ [(c.1, l.2 + c.2)] ++ t := by
  show joinR (addR (R ++ [l]) c) t = _
  rw [addR_more R l c h, join_alt t _ a.tail (fun l' d hl hd => ?_)]
  rw [List.getLast?_concat] at hl
  cases hl
  cases t with
  | nil => cases hd
  | cons e u =>
    cases hd
    exact a 0 c _ rfl rfl
/-! ### items and runs -/
theorem run_more : ∀ (n : Nat) (R : List Run) (k : Str) (c : Int), (List.replicate n k).foldl (fun rs k => addR rs (k, 1)) (R ++ [(k, c)]) = R ++ [(k, c + (n : Int))]
  | 0, R, k, c => by
    rw [show c + ((0 : Nat) : Int) = c by omega]
    rfl
  | n + 1, R, k, c => by
    show (List.replicate n k).foldl (fun rs k => addR rs (k, 1)) (addR (R ++ [(k, c)]) (k, 1)) = _
    rw [addR_more R (k, c) (k, 1) rfl, run_more n R k (c + 1), show c + 1 + (n : Int) = c + ((n + 1 : Nat) : Int) by omega]
theorem run_one (n : Nat) (rs : List Run) (k : Str) (h : ∀ l, rs.getLast? = some l → l.1 ≠ k) : (List.replicate (n + 1) k).foldl (fun rs k => addR rs (k, 1)) rs = rs ++ [(k, (n : Int) + 1)] := by
  show (List.replicate n k).foldl (fun rs k => addR rs (k, 1)) (addR rs (k, 1)) = _
  rw [addR_new (r := (k, 1)) h, run_more n rs k 1, show (1 : Int) + (n : Int) = (n : Int) + 1 by omega]
theorem run_items : ∀ (rs R : List Run), Alt rs → (∀ r ∈ rs, 1 ≤ r.2) → (∀ l c, R.getLast? = some l → rs.head? = some c → l.1 ≠ c.1) → (itR rs).foldl (fun rs k => addR rs (k, 1)) R = R ++ rs
  | [], R, _, _, _ => by
    rw [List.append_nil]
    rfl
  | r :: t, R, a, p, h => by
    have c1 := p r (List.mem_cons_self ..)
    obtain ⟨n, hn⟩ : ∃ n : Nat, r.2.toNat = n + 1 := ⟨r.2.toNat - 1, by omega⟩
    have e : itR (r :: t) = List.replicate r.2.toNat r.1 ++ itR t := rfl
    rw [e, List.foldl_append, hn, run_one n R r.1 (fun l hl => h l r hl rfl), show (n : Int) + 1 = r.2 by omega, run_items t (R ++ [(r.1, r.2)]) a.tail (fun x hx => p x (List.mem_cons_of_mem _ hx)) (fun l d hl hd => ?_), List.append_assoc]
    · rfl
    · rw [List.getLast?_concat] at hl
      cases hl
      cases t with
      | nil => cases hd
      | cons e u =>
        cases hd
        exact a 0 _ _ rfl rfl
theorem run_it {rs : List Run} (a : Alt rs) (p : ∀ r ∈ rs, 1 ≤ r.2) : runR (itR rs) = rs := by
  have := run_items rs [] a p (fun l c hl => by cases hl)
  rw [List.nil_append] at this
  exact this
theorem it_one (k : Str) (c : Int) : itR [(k, c)] = List.replicate c.toNat k := by
  show List.replicate c.toNat k ++ [] = _
  rw [List.append_nil]
theorem it_add (rs : List Run) (k : Str) (p : ∀ r ∈ rs, 1 ≤ r.2) : itR (addR rs (k, 1)) = itR rs ++ [k] := by
  rcases List.eq_nil_or_concat rs with e0 | ⟨R0, l, e0⟩
  · subst e0
    rfl
  · rw [List.concat_eq_append] at e0
    subst e0
    have c1 := p l (List.mem_append.mpr (.inr (List.mem_singleton.mpr rfl)))
    by_cases h : l.1 = k
    · rw [addR_more R0 l (k, 1) h, it_app, it_app, List.append_assoc, it_one]
      congr 1
      have e : itR [l] = List.replicate l.2.toNat l.1 := it_one l.1 l.2
      show List.replicate (l.2 + 1).toNat k = itR [l] ++ [k]
      rw [e, h, show (l.2 + 1).toNat = l.2.toNat + 1 by omega, List.replicate_succ']
    · rw [addR_new (fun l' hl => by rw [List.getLast?_concat] at hl; cases hl; exact h), it_app]
      rfl
/-- what holds of the runs of some kinds -/
structure RunsOf (rs : List Run) (ks : List Str) : Prop where
  it : itR rs = ks
  pos : ∀ r ∈ rs, 1 ≤ r.2
  mem : ∀ r ∈ rs, r.1 ∈ ks
  alt : Alt rs
theorem runs_snoc {rs : List Run} {ks : List Str} {k : Str} (h : RunsOf rs ks) : RunsOf (addR rs (k, 1)) (ks ++ [k]) := by
  obtain ⟨i, p, m, a⟩ := h
  refine ⟨by rw [it_add rs k p, i], ?_, ?_, ?_⟩
  all_goals
    rcases List.eq_nil_or_concat rs with e0 | ⟨R0, l, e0⟩
  · subst e0
    intro r hr
    rw [List.mem_singleton.mp (show r ∈ [(k, (1 : Int))] from hr)]
    exact Int.le_refl 1
  · rw [List.concat_eq_append] at e0
    subst e0
    have c1 := p l (List.mem_append.mpr (.inr (List.mem_singleton.mpr rfl)))
    intro r hr
    by_cases h : l.1 = k
    · rw [addR_more R0 l (k, 1) h] at hr
      rcases List.mem_append.mp hr with z | z
      · exact p r (List.mem_append.mpr (.inl z))
      · rw [List.mem_singleton.mp z]
        show 1 ≤ l.2 + 1
        omega
    · rw [addR_new (fun l' hl => by rw [List.getLast?_concat] at hl; cases hl; exact h)] at hr
      rcases List.mem_append.mp hr with z | z
      · exact p r z
      · rw [List.mem_singleton.mp z]
        exact Int.le_refl 1
  · subst e0
    intro r hr
    rw [List.mem_singleton.mp (show r ∈ [(k, (1 : Int))] from hr)]
    exact List.mem_append.mpr (.inr (List.mem_singleton.mpr rfl))
  · rw [List.concat_eq_append] at e0
    subst e0
    intro r hr
    by_cases h : l.1 = k
    · rw [addR_more R0 l (k, 1) h] at hr
      rcases List.mem_append.mp hr with z | z
      · exact List.mem_append.mpr (.inl (m r (List.mem_append.mpr (.inl z))))
      · rw [List.mem_singleton.mp z]
        exact List.mem_append.mpr (.inr (List.mem_singleton.mpr rfl))
    · rw [addR_new (fun l' hl => by rw [List.getLast?_concat] at hl; cases hl; exact h)] at hr
      rcases List.mem_append.mp hr with z | z
      · exact List.mem_append.mpr (.inl (m r z))
      · rw [List.mem_singleton.mp z]
        exact List.mem_append.mpr (.inr (List.mem_singleton.mpr rfl))
  · subst e0
    intro i x y hx hy
    cases hy
  · rw [List.concat_eq_append] at e0
    subst e0
    by_cases h : l.1 = k
    · rw [addR_more R0 l (k, 1) h]
      have e : (R0 ++ [((k, (1 : Int)).1, l.2 + (k, (1 : Int)).2)]).map (·.1) = (R0 ++ [l]).map (·.1) := by
        rw [List.map_append, List.map_append]
        show R0.map (·.1) ++ [k] = R0.map (·.1) ++ [l.1]
        rw [h]
      intro i x y hx hy
      have ex := congrArg (fun z : List Str => z[i]?) e
      have ey := congrArg (fun z : List Str => z[i + 1]?) e
      simp only [List.getElem?_map] at ex ey
      rw [hx] at ex
      rw [hy] at ey
      cases gx : (R0 ++ [l])[i]? with
      | none => rw [gx] at ex; cases ex
      | some x' =>
        cases gy : (R0 ++ [l])[i + 1]? with
        | none => rw [gy] at ey; cases ey
        | some y' =>
          rw [gx] at ex
          rw [gy] at ey
          have ex : x.1 = x'.1 := Option.some.inj ex
          have ey : y.1 = y'.1 := Option.some.inj ey
          rw [ex, ey]
          exact a i x' y' gx gy
    · rw [addR_new (fun l' hl => by rw [List.getLast?_concat] at hl; cases hl; exact h)]
      refine alt_snoc a fun y hy => ?_
      rw [← List.getLast?_eq_getElem?, List.getLast?_concat] at hy
      cases hy
      exact h
theorem runs_of_all : ∀ (ks l : List Str) (R : List Run), RunsOf R l → RunsOf (ks.foldl (fun rs k => addR rs (k, 1)) R) (l ++ ks)
  | [], l, R, h => by
    rw [List.append_nil]
    exact h
  | k :: t, l, R, h => by
    have := runs_of_all t (l ++ [k]) _ (runs_snoc (k := k) h)
    rw [List.append_assoc] at this
    exact this
theorem runs_all (ks : List Str) : RunsOf (runR ks) ks := runs_of_all ks [] [] ⟨rfl, (fun r h => by cases h), (fun r h => by cases h), fun i x y hx => by simp at hx⟩
theorem len_mem {rs : List Run} (p : ∀ r ∈ rs, 1 ≤ r.2) : ∀ r ∈ rs, r.2 ≤ lenR rs := by
  induction rs with
  | nil => intro r h; cases h
  | cons x t ih =>
    intro r hr
    have c1 := p x (List.mem_cons_self ..)
    have ih' := ih fun y hy => p y (List.mem_cons_of_mem _ hy)
    rw [lenR_cons]
    have nn : 0 ≤ lenR t := by
      have := len_it t fun y hy => p y (List.mem_cons_of_mem _ hy)
      omega
    rcases List.mem_cons.mp hr with e | e
    · rw [e]
      omega
    · have := ih' r e
      omega
theorem seq_runs {ks : List Str} (l : ks.length ≤ 400) (ok : ∀ k ∈ ks, KindOk k) : SeqOk (runR ks) ∧ lenR (runR ks) ≤ 400 ∧ itR (runR ks) = ks := by
  obtain ⟨i, p, m, a⟩ := runs_all ks
  have ll := len_it (runR ks) p
  rw [i] at ll
  refine ⟨⟨?_, fun r hr => ⟨ok _ (m r hr), p r hr, ?_⟩, a⟩, by omega, i⟩
  · exact Nat.le_trans (runR_len ks) l
  · have := len_mem p r hr
    omega
end UP

set_option Elab.async false
set_option linter.all false
set_option maxRecDepth 100000
set_option maxHeartbeats 4000000
namespace UP
open PySem PySem.Spec PyProof.Rows L2 L2.DX
/-! ### kinds counted -/
structure CT (ks : List Run) (its : List Str) : Prop where
  nd : (ks.map (·.1)).Nodup
  val : ∀ e ∈ ks, e.2 = ((its.count e.1 : Nat) : Int)
  cov : ∀ k, k ∈ its ↔ k ∈ ks.map (·.1)
  sum : (ks.map (·.2)).sum = (its.length : Int)
theorem CT.nil : CT [] [] := ⟨List.nodup_nil, (fun e h => by cases h), (fun k => Iff.rfl), rfl⟩
theorem sum_perm {l m : List Run} (h : l.Perm m) : (l.map (·.2)).sum = (m.map (·.2)).sum := by
  induction h with
  | nil => rfl
  | cons x _ ih => rw [List.map_cons, List.map_cons, List.sum_cons, List.sum_cons, ih]
  | swap x y l =>
    simp only [List.map_cons, List.sum_cons]
    omega
  | trans _ _ h1 h2 => exact h1.trans h2
theorem CT.perm {l m : List Run} {its : List Str} (h : l.Perm m) (c : CT m its) : CT l its :=
  ⟨(h.map _).symm.nodup c.nd, fun e he => c.val e (h.mem_iff.mp he), fun k => (c.cov k).trans (h.map _).mem_iff.symm, (sum_perm h).trans c.sum⟩
theorem val_ent {ks : List Run} {k : Str} : valV (ks.map entK) (Sum.inr k) = (ks.find? fun e => decide (e.1 = k)).map fun e => V.int e.2 := by
  induction ks with
  | nil => rfl
  | cons e t ih =>
    rw [List.map_cons]
    by_cases c : e.1 = k
    · have e1 : List.find? (fun e : Run => decide (e.1 = k)) (e :: t) = some e := by
        rw [List.find?_cons, show (decide (e.1 = k)) = true from decide_eq_true c]
      rw [valV_pos (p := entK e) (by show (Sum.inr e.1 : L2.Key) = _; rw [c]), e1]
      rfl
    · have e1 : List.find? (fun e : Run => decide (e.1 = k)) (e :: t) = List.find? (fun e : Run => decide (e.1 = k)) t := by
        rw [List.find?_cons, show (decide (e.1 = k)) = false from decide_eq_false c]
      rw [valV_neg (p := entK e) (fun z => c (Sum.inr.inj z)), e1]
      exact ih
/-- what a dict of counts says of a kind -/
theorem CT.get {ks : List Run} {its : List Str} (c : CT ks its) (k : Str) : (valV (ks.map entK) (Sum.inr k)).getD (.int 0) = .int ((its.count k : Nat) : Int) := by
  rw [val_ent]
  cases h : ks.find? fun e => decide (e.1 = k) with
  | none =>
    have no : k ∉ its := fun hk => by
      obtain ⟨e, he, ek⟩ := List.mem_map.mp ((c.cov k).mp hk)
      have := List.find?_eq_none.mp h e he
      exact this (decide_eq_true ek)
    rw [List.count_eq_zero_of_not_mem no]
    rfl
  | some e =>
    have e0 := List.find?_some (p := fun e : Run => decide (e.1 = k)) h
    have e1 : e.1 = k := of_decide_eq_true e0
    have e2 := c.val e (List.mem_of_find?_eq_some h)
    rw [e1] at e2
    show V.int e.2 = _
    rw [e2]
theorem key_map {ks : List Run} {k : Str} {n : Int} : (ks.map entK).map (fun kv => if kv.1 = (Sum.inr k : L2.Key) then (kv.1, V.int n) else kv) = (ks.map fun e => if e.1 = k then (e.1, n) else e).map entK := by
  rw [List.map_map, List.map_map]
  refine List.map_congr_left fun e _ => ?_
  show (if (Sum.inr e.1 : L2.Key) = Sum.inr k then _ else _) = entK (if e.1 = k then (e.1, n) else e)
  by_cases c : e.1 = k
  · rw [if_pos (by rw [c]), if_pos c]
  · rw [if_neg (fun z => c (Sum.inr.inj z)), if_neg c]
theorem sum_set {ks : List Run} {k : Str} {n : Int} {e0 : Run} (nd : (ks.map (·.1)).Nodup) (h : e0 ∈ ks) (e : e0.1 = k) : ((ks.map fun e => if e.1 = k then (e.1, n) else e).map (·.2)).sum = (ks.map (·.2)).sum - e0.2 + n := by
  induction ks with
  | nil => cases h
  | cons x t ih =>
    have nd := List.nodup_cons.mp (show (x.1 :: t.map (·.1)).Nodup from nd)
    simp only [List.map_cons, List.sum_cons]
    by_cases c : x.1 = k
    · have ex : x = e0 := by
        rcases List.mem_cons.mp h with z | z
        · exact z.symm
        · exact absurd (List.mem_map.mpr ⟨e0, z, by rw [e, c]⟩) nd.1
      have keep : (t.map fun e => if e.1 = k then (e.1, n) else e) = t := by
        refine (List.map_congr_left fun y hy => ?_).trans (List.map_id _)
        have : ¬ y.1 = k := fun z => nd.1 (List.mem_map.mpr ⟨y, hy, by rw [z, c]⟩)
        rw [if_neg this]
        rfl
      have e9 : (t.map fun e => if e.1 = k then (e.1, n) else e).map (·.2) = t.map (·.2) := by rw [keep]
      rw [if_pos c, ex]
      show n + ((t.map fun e => if e.1 = k then (e.1, n) else e).map (·.2)).sum = e0.2 + (t.map (·.2)).sum - e0.2 + n
      rw [e9]
      omega
    · have h' : e0 ∈ t := by
        rcases List.mem_cons.mp h with z | z
        · rw [z] at e
          exact absurd e c
        · exact z
      have := ih nd.2 h'
      rw [if_neg c, this]
      omega
theorem CT.put {ks : List Run} {its : List Str} (c : CT ks its) (k : Str) (n : Nat) (hn : 1 ≤ n) : ∃ ks', putK (ks.map entK) (Sum.inr k) (.int (((its.count k : Nat) : Int) + (n : Int))) = ks'.map entK ∧ CT ks' (its ++ List.replicate n k) ∧ ks'.length ≤ ks.length + 1 := by
  have cnt : ∀ j : Str, (its ++ List.replicate n k).count j = its.count j + if j = k then n else 0 := by
    intro j
    rw [List.count_append, List.count_replicate]
    congr 1
    by_cases e : j = k
    · rw [if_pos e, if_pos (by rw [e]; exact beq_self_eq_true k)]
    · rw [if_neg e, if_neg (fun z => e (eq_of_beq z).symm)]
  have mem : ∀ j : Str, j ∈ its ++ List.replicate n k ↔ j ∈ its ∨ j = k := by
    intro j
    rw [List.mem_append, List.mem_replicate]
    exact ⟨fun h => h.elim .inl fun z => .inr z.2, fun h => h.elim .inl fun z => .inr ⟨by omega, z⟩⟩
  by_cases hk : k ∈ its
  · have hk' := (c.cov k).mp hk
    obtain ⟨e0, he0, ek⟩ := List.mem_map.mp hk'
    have any : ((ks.map entK).any fun kv => decide (kv.1 = (Sum.inr k : L2.Key))) = true := by
      rw [List.any_eq_true]
      exact ⟨entK e0, List.mem_map.mpr ⟨e0, he0, rfl⟩, decide_eq_true (by show (Sum.inr e0.1 : L2.Key) = _; rw [ek])⟩
    have keys : (ks.map fun e => if e.1 = k then (e.1, ((its.count k : Nat) : Int) + (n : Int)) else e).map (·.1) = ks.map (·.1) := by
      rw [List.map_map]
      refine List.map_congr_left fun e _ => ?_
      show (if e.1 = k then (e.1, ((its.count k : Nat) : Int) + (n : Int)) else e).1 = e.1
      split <;> rfl
    refine ⟨ks.map fun e => if e.1 = k then (e.1, ((its.count k : Nat) : Int) + (n : Int)) else e, ?_, ⟨by rw [keys]; exact c.nd, fun e he => ?_, fun j => ?_, ?_⟩, by rw [List.length_map]; omega⟩
    · unfold putK
      rw [if_pos any, key_map]
    · obtain ⟨x, hx, ex⟩ := List.mem_map.mp he
      rw [← ex, cnt]
      by_cases d : x.1 = k
      · rw [if_pos d]
        show ((its.count k : Nat) : Int) + (n : Int) = ((its.count x.1 + if x.1 = k then n else 0 : Nat) : Int)
        rw [if_pos d, d]
        omega
      · rw [if_neg d, if_neg d]
        exact c.val x hx
    · rw [keys, mem, c.cov j]
      exact ⟨fun h => h.elim id fun z => by rw [z]; exact hk', .inl⟩
    · rw [sum_set c.nd he0 ek, c.sum, c.val e0 he0, ek, List.length_append, List.length_replicate]
      omega
  · have hk' : k ∉ ks.map (·.1) := fun z => hk ((c.cov k).mpr z)
    have any : ¬ ((ks.map entK).any fun kv => decide (kv.1 = (Sum.inr k : L2.Key))) = true := by
      rw [List.any_eq_true]
      rintro ⟨kv, h1, h2⟩
      obtain ⟨e, he, ee⟩ := List.mem_map.mp h1
      have := of_decide_eq_true h2
      rw [← ee] at this
      exact hk' (List.mem_map.mpr ⟨e, he, Sum.inr.inj this⟩)
    have z0 : its.count k = 0 := List.count_eq_zero_of_not_mem hk
    refine ⟨ks ++ [(k, ((its.count k : Nat) : Int) + (n : Int))], ?_, ⟨?_, fun e he => ?_, fun j => ?_, ?_⟩, by rw [List.length_append]; exact Nat.le_refl _⟩
    · unfold putK
      rw [if_neg any, List.map_append]
      rfl
    · rw [List.map_append]
      refine List.nodup_append.mpr ⟨c.nd, List.nodup_cons.mpr ⟨by simp, List.nodup_nil⟩, fun a ha b hb => ?_⟩
      rw [List.mem_singleton.mp hb]
      intro z
      rw [z] at ha
      exact hk' ha
    · rw [cnt]
      rcases List.mem_append.mp he with z | z
      · have ne : e.1 ≠ k := fun w => hk' (List.mem_map.mpr ⟨e, z, w⟩)
        rw [if_neg ne]
        exact c.val e z
      · rw [List.mem_singleton.mp z]
        show ((its.count k : Nat) : Int) + (n : Int) = ((its.count k + if k = k then n else 0 : Nat) : Int)
        rw [if_pos rfl]
        omega
    · rw [mem, List.map_append, List.mem_append, c.cov j]
      show _ ∨ _ ↔ _ ∨ j ∈ [k]
      rw [List.mem_singleton]
    · rw [List.map_append, List.sum_append, c.sum, List.length_append, List.length_replicate, z0]
      show _ + ((((0 : Nat) : Int) + (n : Int)) + 0) = _
      omega
/-! ### sorted counts are unique -/
theorem Same.butB {H H1 H' : Hp} {D : Addr} (n : H D = none) (s : Same H H1) (b : But D H1 H') : Same H H' := fun a o e => b _ _ (ne_of_none e n) (s _ _ e)
def ltR (x y : Run) : Prop := x.1.cps.toList < y.1.cps.toList
theorem uniq_sorted : ∀ {l m : List Run}, l.Pairwise ltR → m.Pairwise ltR → (∀ x, x ∈ l ↔ x ∈ m) → l = m
  | [], [], _, _, _ => rfl
  | [], b :: m, _, _, h => absurd ((h b).mpr (List.mem_cons_self ..)) (by simp)
  | a :: l, [], _, _, h => absurd ((h a).mp (List.mem_cons_self ..)) (by simp)
  | a :: l, b :: m, hl, hm, h => by
    have hl := List.pairwise_cons.mp hl
    have hm := List.pairwise_cons.mp hm
    have e : a = b := by
      rcases List.mem_cons.mp ((h a).mp (List.mem_cons_self ..)) with z | z
      · exact z
      · rcases List.mem_cons.mp ((h b).mpr (List.mem_cons_self ..)) with w | w
        · exact w.symm
        · exact absurd (hl.1 b w) (List.lt_asymm (hm.1 a z))
    subst e
    congr 1
    refine uniq_sorted hl.2 hm.2 fun x => ⟨fun hx => ?_, fun hx => ?_⟩
    · rcases List.mem_cons.mp ((h x).mp (List.mem_cons_of_mem _ hx)) with z | z
      · rw [z] at hx
        exact absurd (hl.1 a hx) (List.lt_irrefl _)
      · exact z
    · rcases List.mem_cons.mp ((h x).mpr (List.mem_cons_of_mem _ hx)) with z | z
      · rw [z] at hx
        exact absurd (hm.1 a hx) (List.lt_irrefl _)
      · exact z
theorem lt_of_not {x y : Str} (n : x ≠ y) (h : ¬ y.cps.toList < x.cps.toList) : x.cps.toList < y.cps.toList := by
  by_cases c : x.cps.toList < y.cps.toList
  · exact c
  · exact absurd (UPS.str_of (List.le_antisymm h c)) n
theorem CT.strict {ks : List Run} {its : List Str} (c : CT ks its) (s : ks.Pairwise fun x y => UPS.lexS y x = false) : ks.Pairwise ltR := by
  have nd : ks.Pairwise fun x y => x.1 ≠ y.1 := List.pairwise_map.mp c.nd
  refine (List.Pairwise.and nd s).imp fun {x y} h => ?_
  exact lt_of_not h.1 ((UPS.lexS_no.mp h.2).2 fun z => h.1 z.symm)
theorem CT.eq {ks ls : List Run} {its : List Str} (c : CT ks its) (d : CT ls its) (s : ks.Pairwise fun x y => UPS.lexS y x = false) (t : ls.Pairwise fun x y => UPS.lexS y x = false) : ks = ls := by
  have sub : ∀ {a b : List Run}, CT a its → CT b its → ∀ x ∈ a, x ∈ b := by
    intro a b ca cb x hx
    have hk := (ca.cov x.1).mpr (List.mem_map.mpr ⟨x, hx, rfl⟩)
    obtain ⟨e, he, ee⟩ := List.mem_map.mp ((cb.cov x.1).mp hk)
    have : e = x := Prod.ext ee (by rw [cb.val e he, ca.val x hx, ee])
    rw [← this]
    exact he
  exact uniq_sorted (c.strict s) (d.strict t) fun x => ⟨sub c d x, sub d c x⟩
section
variable {P : Program} {w : World} {K : PySem.W.Frag} {mg : Str → Option Value} {base : Heap}
/-! total_length: slots 0:sequence -/
abbrev s_total_length : Stmt := topS 20
theorem sc_total_length : FnScope ["sequence"] ["sequence"] (defScope s_total_length) := ⟨rfl, rfl, rfl, by decide +kernel, rfl, by decide +kernel, by decide +kernel⟩
def sp_total_length : Sp := fun vs H Q _ => ∃ (av : V) (rs : List Run), vs = [av] ∧ RunsG H av rs ∧ SeqOk rs ∧ ∀ H', Same H H' → Q (.int (lenR rs)) H'
theorem ok_total_length (D : Df K mg "total_length" s_total_length) (G_checked_runs : Has P w K mg base 5 "checked_runs" ["sequence"] sp_checked_runs) (G_length_of : Has P w K mg base 1 "length_of" ["runs"] sp_length_of) : Has P w K mg base 6 "total_length" ["sequence"] sp_total_length := by
  refine has_of D sc_total_length (fun _ _ _ _ _ _ us hl => match us, hl with | [_], _ => rfl) (fun vs H Q E h => ?_) (fun f cdv A outer s₀ H vs Q E hr h => ?_)
  · obtain ⟨a, R, rfl, _⟩ := h
    rfl
  · obtain ⟨av, rs, rfl, hR, ok, q⟩ := h
    refine ⟨_, (pss_one (ps_ret (pe_callH G_length_of (hr.mono (by omega)) (by rfl) (pa_cons (pe_callH G_checked_runs (hr.mono (by omega)) (by rfl) (pa_cons (pv 0) pa_nil)) pa_nil)))), ?_⟩
    exact ⟨_, rfl, av, rs, rfl, hR, ok, fun H1 p s1 np hp => ⟨p, rs, rfl, hp, by have := ok.1; omega, fun H2 s2 => q _ (s1.trans s2)⟩⟩
/-! counts_of: slots 0:sequence 1:totals 2:kind 3:count -/
abbrev s_counts_of : Stmt := topS 21
theorem sc_counts_of : FnScope ["sequence", "totals", "kind", "count"] ["sequence"] (defScope s_counts_of) := ⟨rfl, rfl, rfl, by decide +kernel, rfl, by decide +kernel, by decide +kernel⟩
def sp_counts_of : Sp := fun vs H Q _ => ∃ (av : V) (rs : List Run), vs = [av] ∧ RunsG H av rs ∧ SeqOk rs ∧ ∀ H' p out, Same H H' → H p = none → Runs H' p out → CT out (itR rs) → out.Pairwise (fun x y => UPS.lexS y x = false) → out.length ≤ rs.length → Q (.ref p) H'
theorem ok_counts_of (D : Df K mg "counts_of" s_counts_of) (T : Tx mg) (G_checked_runs : Has P w K mg base 5 "checked_runs" ["sequence"] sp_checked_runs) : Has P w K mg base 6 "counts_of" ["sequence"] sp_counts_of := by
  refine has_of D sc_counts_of (fun _ _ _ _ _ _ us hl => match us, hl with | [_], _ => rfl) (fun vs H Q E h => ?_) (fun f cdv A outer s₀ H vs Q E hr h => ?_)
  · obtain ⟨a, R, rfl, _⟩ := h
    rfl
  · obtain ⟨av, rs, rfl, hR, ok, q⟩ := h
    have l4 := ok.1
    refine ⟨_, (pss_cons (ps_set (i := 1) sc_counts_of.nd rfl (by first | exact Or.inl rfl | exact Or.inr rfl) pe_dnewK)
    (pss_cons (ps_for PassesOwn.never rfl (pi_list (pe_callH G_checked_runs (hr.mono (by omega)) (by rfl) (pa_cons (pv 0) pa_nil))) (pg_tup rfl (pgs_cons (pg_name (i := 2) sc_counts_of.nd rfl (by first | exact Or.inl rfl | exact Or.inr rfl)) (pgs_cons (pg_name (i := 3) sc_counts_of.nd rfl (by first | exact Or.inl rfl | exact Or.inr rfl)) pgs_nil)))
      (pss_one (ps_dput (hu_of hr) (pv 1) (pv 2) (pe_op op_add (pe_dget2 (hu_of hr) (pv 1) (pv 2) pe_int ⟨by rfl, by rfl, by rfl, by rfl⟩) (pv 3)) rfl)))
    (pss_one (ps_ret (pe_callB cr_sortedR (by rfl) T.n_sorted (by decide +kernel) (pa_cons (LiI.pe_listItems (by rfl) (pv 1) (by rfl) T.n_list (by decide +kernel)) pa_nil)))))), ?_⟩
    refine fun d nd => ⟨_, rfl, av, rs, rfl, hR.same (same_upd nd), ok, fun H1 p s1 np hp => ?_⟩
    obtain ⟨xs, hx, hpr⟩ := hp
    have lx : xs.length = rs.length := Paired.len hpr
    have sd := same_upd (o := .dK []) nd
    have hd1 : H1 d = some (.dK []) := s1 _ _ upd_same
    have pd : p ≠ d := fun z => by rw [z, hd1] at hx; cases hx
    refine ⟨p, rfl, ⟨xs, .of hx⟩, for_list (K := K) (a := p) (xs := xs) (fun i σ H' => ∃ y2 y3 ks, σ = [some av, some (.ref d), y2, y3] ∧ But d H1 H' ∧ H' d = some (.dK (ks.map entK)) ∧ CT ks (itR (rs.take i)) ∧ ks.length ≤ i) ⟨none, none, [], rfl, But.refl, hd1, CT.nil, Nat.le_refl _⟩ (fun i σ H' _ hP => ?_) (fun i x σ H2 ex hP => ?_) (fun σ H2 hP => ?_)⟩
    · obtain ⟨_, _, _, _, bt, _⟩ := hP
      exact .of (bt _ _ pd hx)
    · obtain ⟨y2, y3, ks, rfl, bt, hd, ct, lk⟩ := hP
      obtain ⟨r, er, ⟨t, rfl, ht⟩⟩ := Paired.at hpr ex
      have ht2 := bt _ _ (ne_of ht hd1 (by intro z; cases z)) ht
      have hi : i < xs.length := (List.getElem?_eq_some_iff.mp ex).1
      have c1 := (ok.2.1 r (List.mem_of_getElem? er)).2.1
      refine ⟨t, _, rfl, .of ht2, rfl, _, _, rfl, _, _, rfl, rfl, ?_⟩
      refine ⟨_, rfl, d, rfl, .inl ⟨_, .inl hd⟩, _, rfl, _, DGet.k (k := Sum.inr r.1) hd, ?_⟩
      rw [ct.get]
      obtain ⟨ks', e1, ct', l'⟩ := ct.put r.1 r.2.toNat (by omega)
      rw [show ((r.2.toNat : Nat) : Int) = r.2 by omega] at e1
      refine ⟨_, rfl, _, _, rfl, rfl, _, rfl, _, rfl, d, _, rfl, DPut.k (k := Sum.inr r.1) hd (by rw [List.length_map]; exact small (by omega)), ?_⟩
      refine ⟨_, _, ks', rfl, bt.trans but_upd, ?_, ?_, by omega⟩
      · rw [upd_same]
        exact congrArg (fun z => some (HO.dK z)) e1
      · rw [take_snoc er, itR_snoc]
        exact ct'
    · obtain ⟨y2, y3, ks, rfl, bt, hd, ct, lk⟩ := hP
      rw [lx, List.take_length] at ct
      have sA : Same H H2 := Same.butB nd (sd.trans s1) bt
      refine ⟨_, rfl, d, _, rfl, hd, fun H3 l ts k1 k2 _ _ k5 k6 => ?_⟩
      have s3 : Same H2 H3 := k1
      have rn : Runs H3 l ks := ⟨_, k5, ?_⟩
      · refine ⟨l, ks, rfl, rn, fun H4 l4 out s4 n4 hl pm so => q H4 l4 out (sA.trans (s3.trans s4)) ((sA.trans s3).free n4) hl (ct.perm pm) so ?_⟩
        rw [pm.length_eq]
        omega
      · have g : ∀ {as : List Addr} {es : List Run}, Paired (fun (t : Addr) (q : L2.Key × V) => H3 t = some (.tup [kV q.1, q.2])) as (es.map entK) → Paired (RunV H3) (as.map V.ref) es := by
          intro as es h
          induction es generalizing as with
          | nil => cases h; exact .nil
          | cons e u ih =>
            cases h with
            | cons h1 h2 => exact .cons ⟨_, rfl, h1⟩ (ih h2)
        exact g k6
/-! kind_at: slots 0:sequence 1:position 2:runs -/
abbrev s_kind_at : Stmt := topS 22
theorem sc_kind_at : FnScope ["sequence", "position", "runs"] ["sequence", "position"] (defScope s_kind_at) := ⟨rfl, rfl, rfl, by decide +kernel, rfl, by decide +kernel, by decide +kernel⟩
def sp_kind_at : Sp := fun vs H Q _ => ∃ (av : V) (rs : List Run) (m : Int) (k : Str), vs = [av, .int m] ∧ RunsG H av rs ∧ SeqOk rs ∧ 0 ≤ m ∧ m < lenR rs ∧ (cutR m (m + 1) 0 rs).head?.map (·.1) = some k ∧ ∀ H', Same H H' → Q (.str k) H'
theorem ok_kind_at (D : Df K mg "kind_at" s_kind_at) (G_checked_runs : Has P w K mg base 5 "checked_runs" ["sequence"] sp_checked_runs) (G_check_position : Has P w K mg base 3 "check_position" ["runs", "position"] sp_check_position) (G_cut : Has P w K mg base 1 "cut" ["runs", "start", "length"] sp_cut) : Has P w K mg base 6 "kind_at" ["sequence", "position"] sp_kind_at := by
  refine has_of D sc_kind_at (fun _ _ _ _ _ _ us hl => match us, hl with | [_, _], _ => rfl) (fun vs H Q E h => ?_) (fun f cdv A outer s₀ H vs Q E hr h => ?_)
  · obtain ⟨a, R, _, _, rfl, _⟩ := h
    rfl
  · obtain ⟨av, rs, m, k, rfl, hR, ok, m0, m1, hk, q⟩ := h
    have l4 : rs.length ≤ 1000 := by have := ok.1; omega
    refine ⟨_, (pss_cons (ps_set (i := 2) sc_kind_at.nd rfl (by first | exact Or.inl rfl | exact Or.inr rfl) (pe_callH G_checked_runs (hr.mono (by omega)) (by rfl) (pa_cons (pv 0) pa_nil)))
    (pss_cons (ps_expr (pe_callH G_check_position (hr.mono (by omega)) (by rfl) (pa_cons (pv 2) (pa_cons (pv 1) pa_nil))))
    (pss_one (ps_ret (pe_ix ix_tup (pe_ix ix_list (pe_callH G_cut (hr.mono (by omega)) (by rfl) (pa_cons (pv 2) (pa_cons (pv 1) (pa_cons pe_int pa_nil)))) pe_int (fun _ _ => rfl)) pe_int (fun _ _ => rfl)))))), ?_⟩
    refine ⟨_, rfl, av, rs, rfl, hR, ok, fun H1 p s1 np hp => ?_⟩
    refine ⟨_, rfl, _, rfl, p, rs, m, rfl, hp, l4, m0, m1, fun H2 s2 => ?_⟩
    refine ⟨_, rfl, _, rfl, p, rs, m, 1, rfl, hp.same s2, l4, fun H3 p3 s3 n3 h3 => ?_⟩
    obtain ⟨xs, hx, hpr⟩ := h3
    cases hc : cutR m (m + 1) 0 rs with
    | nil =>
      rw [hc] at hk
      cases hk
    | cons r t =>
      rw [hc] at hk hpr
      have hk : r.1 = k := Option.some.inj hk
      cases hpr with
      | cons h _ =>
        obtain ⟨tr, rfl, htr⟩ := h
        rw [hk] at htr
        exact ⟨p3, _, 0, _, rfl, rfl, .of hx, atI_nat (j := 0) rfl, tr, _, 0, _, rfl, rfl, .of htr, at0, q _ (s1.trans (s2.trans s3))⟩
end
end UP

set_option Elab.async false
set_option linter.all false
set_option maxRecDepth 100000
set_option maxHeartbeats 4000000
namespace UP
open PySem PySem.Spec PyProof.Rows L2 L2.DX
theorem eqv_same {a : Bool} (h : a = true) : (!a) = false := by rw [h]; rfl
theorem eqv_runs {rs : List Run} : PyData.eqv (.list (rs.map dRun)) (.list (rs.map dRun)) = true := by
  have gen : ∀ (rs : List Run), PyData.eqvAll (rs.map dRun) (rs.map dRun) = true := by
    intro rs
    induction rs with
    | nil => rfl
    | cons r t ih =>
      rw [List.map_cons, PyData.eqvAll, ih]
      simp [dRun, PyData.eqv, PyData.eqvAll]
  rw [PyData.eqv]
  exact gen rs
theorem eqv_strs {ks : List Str} : PyData.eqv (.list (ks.map PyData.str)) (.list (ks.map PyData.str)) = true := by
  have gen : ∀ (ks : List Str), PyData.eqvAll (ks.map PyData.str) (ks.map PyData.str) = true := by
    intro rs
    induction rs with
    | nil => rfl
    | cons r t ih =>
      rw [List.map_cons, PyData.eqvAll, ih]
      simp [PyData.eqv]
  rw [PyData.eqv]
  exact gen ks
theorem dp_strs {K : PySem.W.Frag} {H : Hp} : ∀ (ks : List Str), DpAll K H (ks.map V.str) (ks.map PyData.str)
  | [] => .nil
  | k :: t => .cons (.str k) (dp_strs t)
theorem shaped_strs {ks : List Str} (h : ∀ k ∈ ks, KindOk k) : SeqAt.shaped (.list (ks.map PyData.str)) = true := by
  have can : ∀ (ks : List Str), (∀ k ∈ ks, KindOk k) → PyData.canLayAll0 (ks.map PyData.str) = true := by
    intro ks
    induction ks with
    | nil => intro _; rfl
    | cons k t ih =>
      intro h
      rw [List.map_cons, PyData.canLayAll0, ih fun x hx => h x (List.mem_cons_of_mem _ hx), PyData.canLay0, (h k (List.mem_cons_self ..)).str]
      rfl
  have dep : ∀ (ks : List Str), PyData.depthAll (ks.map PyData.str) ≤ 1 := by
    intro ks
    induction ks with
    | nil => exact Nat.zero_le _
    | cons k t ih =>
      rw [List.map_cons, PyData.depthAll]
      exact Nat.max_le.mpr ⟨by rw [PyData.depth]; omega, ih⟩
  unfold SeqAt.shaped
  rw [PyData.canLay0, can ks h, PyData.depth]
  have := dep ks
  exact decide_eq_true (by omega)
theorem pick2 {x y r : Int} (h0 : 0 ≤ r) (h1 : r < 2) : ∃ g, atI [V.int x, V.int y] r = some (.int g) ∧ (g = x ∨ g = y) := by
  by_cases h : r = 0
  · subst h
    exact ⟨x, rfl, .inl rfl⟩
  · have e : r = 1 := by omega
    subst e
    exact ⟨y, rfl, .inr rfl⟩
/-! ### parts, by their items -/
theorem cut_its {s e : Int} : ∀ (rs : List Run) (b : Int), (∀ r ∈ rs, 1 ≤ r.2) → itR (cutR s e b rs) = ((itR rs).take (e - b).toNat).drop (s - b).toNat
  | [], b, _ => by
    show ([] : List Str) = (([] : List Str).take _).drop _
    rw [List.take_nil, List.drop_nil]
  | r :: t, b, k => by
    have c1 := k r (List.mem_cons_self ..)
    have ih := cut_its (s := s) (e := e) t (b + r.2) fun x hx => k x (List.mem_cons_of_mem _ hx)
    have e1 : cutR s e b (r :: t) = pieceR b s e r ++ cutR s e (b + r.2) t := rfl
    have e2 : itR (r :: t) = List.replicate r.2.toNat r.1 ++ itR t := rfl
    have ep : itR (pieceR b s e r) = List.replicate (min (e - b).toNat r.2.toNat - (s - b).toNat) r.1 := by
      by_cases hs : 0 < sizeR b s e r.2
      · rw [show pieceR b s e r = [(r.1, sizeR b s e r.2)] from if_pos hs]
        show List.replicate (sizeR b s e r.2).toNat r.1 ++ [] = _
        rw [List.append_nil]
        congr 1
        unfold sizeR at hs ⊢
        split at hs <;> split at hs <;> (first | rw [if_pos (by omega)] | rw [if_neg (by omega)]) <;> (first | rw [if_pos (by omega)] | rw [if_neg (by omega)]) <;> omega
      · rw [show pieceR b s e r = [] from if_neg hs]
        have : min (e - b).toNat r.2.toNat - (s - b).toNat = 0 := by
          unfold sizeR at hs
          split at hs <;> split at hs <;> omega
        rw [this]
        rfl
    rw [e1, it_app, ih, e2, take_app, List.length_replicate, List.take_replicate, List.drop_append, List.length_replicate, List.drop_replicate, ep, show (e - (b + r.2)).toNat = (e - b).toNat - r.2.toNat by omega]
    congr 1
    by_cases h : (e - b).toNat ≤ r.2.toNat
    · rw [show (e - b).toNat - r.2.toNat = 0 by omega, List.take_zero, List.drop_nil, List.drop_nil]
    · rw [show (s - (b + r.2)).toNat = (s - b).toNat - min (e - b).toNat r.2.toNat by omega]
theorem cut_pre {s e : Int} : ∀ (rs : List Run) (b : Int), s ≤ b → (∀ r ∈ rs, 1 ≤ r.2) → ∃ n, (cutR s e b rs).map (·.1) = (rs.map (·.1)).take n
  | [], _, _, _ => ⟨0, rfl⟩
  | r :: t, b, h0, k => by
    have c1 := k r (List.mem_cons_self ..)
    by_cases hs : 0 < sizeR b s e r.2
    · obtain ⟨n, hn⟩ := cut_pre (s := s) (e := e) t (b + r.2) (by omega) fun x hx => k x (List.mem_cons_of_mem _ hx)
      refine ⟨n + 1, ?_⟩
      show (pieceR b s e r ++ cutR s e (b + r.2) t).map (·.1) = r.1 :: (t.map (·.1)).take n
      rw [show pieceR b s e r = [(r.1, sizeR b s e r.2)] from if_pos hs, List.map_append, hn]
      rfl
    · refine ⟨0, ?_⟩
      have il : itR (cutR s e b (r :: t)) = [] := by
        rw [cut_its _ _ k, show (e - b).toNat = 0 by unfold sizeR at hs; split at hs <;> split at hs <;> omega, List.take_zero, List.drop_nil]
      have ll := len_it (cutR s e b (r :: t)) cutR_pos
      rw [il] at ll
      cases hc : cutR s e b (r :: t) with
      | nil => rfl
      | cons x u =>
        rw [hc] at ll
        have px : ∀ y ∈ x :: u, 1 ≤ y.2 := by rw [← hc]; exact cutR_pos
        have := len_mem px x (List.mem_cons_self ..)
        have := px x (List.mem_cons_self ..)
        have ll : ((0 : Nat) : Int) = lenR (x :: u) := ll
        omega
theorem cut_sub {s e : Int} : ∀ (rs : List Run) (b : Int), (∀ r ∈ rs, 1 ≤ r.2) → ∃ m n, (cutR s e b rs).map (·.1) = ((rs.map (·.1)).drop m).take n
  | [], _, _ => ⟨0, 0, rfl⟩
  | r :: t, b, k => by
    have c1 := k r (List.mem_cons_self ..)
    by_cases hb : s < b + r.2
    · by_cases hs : 0 < sizeR b s e r.2
      · obtain ⟨n, hn⟩ := cut_pre (s := s) (e := e) t (b + r.2) (by omega) fun x hx => k x (List.mem_cons_of_mem _ hx)
        refine ⟨0, n + 1, ?_⟩
        show (pieceR b s e r ++ cutR s e (b + r.2) t).map (·.1) = r.1 :: (t.map (·.1)).take n
        rw [show pieceR b s e r = [(r.1, sizeR b s e r.2)] from if_pos hs, List.map_append, hn]
        rfl
      · refine ⟨0, 0, ?_⟩
        have il : itR (cutR s e b (r :: t)) = [] := by
          rw [cut_its _ _ k]
          refine List.drop_of_length_le ?_
          rw [List.length_take]
          unfold sizeR at hs
          split at hs <;> split at hs <;> omega
        have ll := len_it (cutR s e b (r :: t)) cutR_pos
        rw [il] at ll
        cases hc : cutR s e b (r :: t) with
        | nil => rfl
        | cons x u =>
          rw [hc] at ll
          have px : ∀ y ∈ x :: u, 1 ≤ y.2 := by rw [← hc]; exact cutR_pos
          have := len_mem px x (List.mem_cons_self ..)
          have := px x (List.mem_cons_self ..)
          have ll : ((0 : Nat) : Int) = lenR (x :: u) := ll
          omega
    · obtain ⟨m, n, hn⟩ := cut_sub (s := s) (e := e) t (b + r.2) fun x hx => k x (List.mem_cons_of_mem _ hx)
      refine ⟨m + 1, n, ?_⟩
      have hs : ¬ 0 < sizeR b s e r.2 := by
        unfold sizeR
        split <;> split <;> omega
      show (pieceR b s e r ++ cutR s e (b + r.2) t).map (·.1) = ((t.map (·.1)).drop m).take n
      rw [show pieceR b s e r = [] from if_neg hs]
      exact hn
theorem alt_sub {rs hs : List Run} {m n : Nat} (h : hs.map (·.1) = ((rs.map (·.1)).drop m).take n) (a : Alt rs) : Alt hs := by
  intro i x y hx hy
  have g : ∀ (j : Nat) (z : Run), hs[j]? = some z → ∃ w, rs[m + j]? = some w ∧ w.1 = z.1 := by
    intro j z hz
    have := congrArg (fun l : List Str => l[j]?) h
    simp only [List.getElem?_map, hz, List.getElem?_take] at this
    split at this
    · rw [List.getElem?_drop, List.getElem?_map] at this
      cases e : rs[m + j]? with
      | none => rw [e] at this; cases this
      | some w =>
        rw [e] at this
        exact ⟨w, rfl, (Option.some.inj this).symm⟩
    · cases this
  obtain ⟨x', h1, e1⟩ := g i x hx
  obtain ⟨y', h2, e2⟩ := g (i + 1) y hy
  rw [← e1, ← e2]
  exact a (m + i) x' y' h1 h2
theorem cut_kind {s e : Int} : ∀ (rs : List Run) (b : Int), ∀ x ∈ cutR s e b rs, ∃ r ∈ rs, x.1 = r.1 ∧ x.2 ≤ r.2
  | [], _, x, h => by cases h
  | r :: t, b, x, h => by
    rcases List.mem_append.mp (show x ∈ pieceR b s e r ++ cutR s e (b + r.2) t from h) with z | z
    · by_cases hs : 0 < sizeR b s e r.2
      · rw [show pieceR b s e r = [(r.1, sizeR b s e r.2)] from if_pos hs] at z
        rw [List.mem_singleton.mp z]
        refine ⟨r, List.mem_cons_self .., rfl, ?_⟩
        show sizeR b s e r.2 ≤ r.2
        unfold sizeR
        split <;> split <;> omega
      · rw [show pieceR b s e r = [] from if_neg hs] at z
        cases z
    · obtain ⟨r', h1, h2⟩ := cut_kind t _ x z
      exact ⟨r', List.mem_cons_of_mem _ h1, h2⟩
theorem seq_cut {s e : Int} {rs : List Run} (ok : SeqOk rs) : SeqOk (cutR s e 0 rs) := by
  have pos : ∀ r ∈ rs, 1 ≤ r.2 := fun r hr => (ok.2.1 r hr).2.1
  refine ⟨Nat.le_trans (cutR_len s e rs 0) ok.1, fun x hx => ?_, ?_⟩
  · obtain ⟨r, hr, e1, e2⟩ := cut_kind rs 0 x hx
    have o := ok.2.1 r hr
    have l := cutR_pos x hx
    refine ⟨by rw [e1]; exact o.1, l, ?_⟩
    have := o.2.2
    omega
  · obtain ⟨m, n, h⟩ := cut_sub (s := s) (e := e) rs 0 pos
    exact alt_sub h ok.2.2
theorem same_runs {rs cs : List Run} (a : SeqOk rs) (b : SeqOk cs) (h : itR rs = itR cs) : rs = cs := by
  rw [← run_it a.2.2 (fun r hr => (a.2.1 r hr).2.1), ← run_it b.2.2 (fun r hr => (b.2.1 r hr).2.1), h]
theorem it_addc (rs : List Run) (r : Run) (p : ∀ r ∈ rs, 1 ≤ r.2) (c : 1 ≤ r.2) (a : Alt rs) : itR (addR rs r) = itR rs ++ List.replicate r.2.toNat r.1 ∧ (∀ x ∈ addR rs r, 1 ≤ x.2) ∧ Alt (addR rs r) := by
  rcases List.eq_nil_or_concat rs with e0 | ⟨R0, l, e0⟩
  · subst e0
    refine ⟨it_one r.1 r.2, fun x hx => ?_, fun i x y hx hy => by cases hy⟩
    rw [List.mem_singleton.mp (show x ∈ [r] from hx)]
    exact c
  · rw [List.concat_eq_append] at e0
    subst e0
    have c1 := p l (List.mem_append.mpr (.inr (List.mem_singleton.mpr rfl)))
    by_cases h : l.1 = r.1
    · rw [addR_more R0 l r h]
      refine ⟨?_, fun x hx => ?_, ?_⟩
      · rw [it_app, it_app, List.append_assoc, it_one]
        congr 1
        have e : itR [l] = List.replicate l.2.toNat l.1 := it_one l.1 l.2
        rw [e, h, List.replicate_append_replicate]
        congr 1
        omega
      · rcases List.mem_append.mp hx with z | z
        · exact p x (List.mem_append.mpr (.inl z))
        · rw [List.mem_singleton.mp z]
          show 1 ≤ l.2 + r.2
          omega
      · refine alt_sub (rs := R0 ++ [l]) (m := 0) (n := (R0 ++ [l]).length) ?_ a
        rw [List.drop_zero, List.map_append, List.map_append, List.take_of_length_le (by rw [List.length_append, List.length_append, List.length_map]; exact Nat.le_refl _)]
        show R0.map (·.1) ++ [r.1] = R0.map (·.1) ++ [l.1]
        rw [h]
    · rw [addR_new (fun l' hl => by rw [List.getLast?_concat] at hl; cases hl; exact h)]
      refine ⟨by rw [it_app]; congr 1; exact it_one r.1 r.2, fun x hx => ?_, ?_⟩
      · rcases List.mem_append.mp hx with z | z
        · exact p x z
        · rw [List.mem_singleton.mp z]
          exact c
      · refine alt_snoc a fun y hy => ?_
        rw [← List.getLast?_eq_getElem?, List.getLast?_concat] at hy
        cases hy
        exact h
theorem it_join : ∀ (cs rs : List Run), (∀ r ∈ rs, 1 ≤ r.2) → Alt rs → (∀ r ∈ cs, 1 ≤ r.2) → itR (joinR rs cs) = itR rs ++ itR cs ∧ (∀ r ∈ joinR rs cs, 1 ≤ r.2) ∧ Alt (joinR rs cs)
  | [], rs, p, a, _ => by
    refine ⟨?_, p, a⟩
    show itR rs = itR rs ++ []
    rw [List.append_nil]
  | c :: t, rs, p, a, pc => by
    obtain ⟨h1, h2, h3⟩ := it_addc rs c p (pc c (List.mem_cons_self ..)) a
    obtain ⟨g1, g2, g3⟩ := it_join t (addR rs c) h2 h3 fun r hr => pc r (List.mem_cons_of_mem _ hr)
    refine ⟨?_, g2, g3⟩
    show itR (joinR (addR rs c) t) = itR rs ++ (List.replicate c.2.toNat c.1 ++ itR t)
    rw [g1, h1, List.append_assoc]
theorem head_it {rs : List Run} (p : ∀ r ∈ rs, 1 ≤ r.2) : rs.head?.map (·.1) = (itR rs)[0]? := by
  cases rs with
  | nil => rfl
  | cons r t =>
    have c1 := p r (List.mem_cons_self ..)
    obtain ⟨n, hn⟩ : ∃ n : Nat, r.2.toNat = n + 1 := ⟨r.2.toNat - 1, by omega⟩
    show some r.1 = (List.replicate r.2.toNat r.1 ++ itR t)[0]?
    rw [hn]
    rfl
theorem kind_pos {rs : List Run} {m : Int} {k : Str} (p : ∀ r ∈ rs, 1 ≤ r.2) (m0 : 0 ≤ m) (h : (itR rs)[m.toNat]? = some k) : (cutR m (m + 1) 0 rs).head?.map (·.1) = some k := by
  rw [head_it cutR_pos, cut_its _ _ p, List.getElem?_drop, List.getElem?_take, if_pos (by omega), Int.sub_zero, Nat.add_zero]
  exact h
theorem merge_id : ∀ (kvs acc : List (L2.Key × V)), ((acc ++ kvs).map (·.1)).Nodup → mergeK acc kvs = acc ++ kvs
  | [], acc, _ => by
    rw [List.append_nil]
    rfl
  | x :: t, acc, h => by
    have e : (acc ++ [x]) ++ t = acc ++ x :: t := by rw [List.append_assoc]; rfl
    have no : valV acc x.1 = none := by
      cases hv : valV acc x.1 with
      | none => rfl
      | some v =>
        exfalso
        rw [List.map_append] at h
        have h3 := (List.nodup_append.mp h).2.2
        have hm : x.1 ∈ acc.map (·.1) := by
          unfold valV at hv
          cases hf : acc.find? fun kv => decide (kv.1 = x.1) with
          | none => rw [hf] at hv; cases hv
          | some kv =>
            have e1 := List.find?_some (p := fun kv : L2.Key × V => decide (kv.1 = x.1)) hf
            exact List.mem_map.mpr ⟨kv, List.mem_of_find?_eq_some hf, of_decide_eq_true e1⟩
        exact h3 _ hm _ (List.mem_map.mpr ⟨x, List.mem_cons_self .., rfl⟩) rfl
    show mergeK (putK acc x.1 x.2) t = acc ++ x :: t
    rw [putK_new x.2 no, show ((x.1, x.2) : L2.Key × V) = x from rfl, merge_id t (acc ++ [x]) (by rw [e]; exact h), e]
theorem CT.merge {ks : List Run} {its : List Str} (c : CT ks its) : mergeK [] (ks.map entK) = ks.map entK := by
  refine (merge_id _ [] ?_).trans (List.nil_append _)
  rw [List.nil_append, List.map_map]
  have e : ks.map ((fun kv : L2.Key × V => kv.1) ∘ entK) = (ks.map (·.1)).map Sum.inr := by rw [List.map_map]; rfl
  rw [e]
  exact List.pairwise_map.mpr (c.nd.imp fun h z => h (Sum.inr.inj z))
theorem refs_run {H : Hp} : ∀ {xs : List V} {Q : List Run}, Paired (RunV H) xs Q → ∃ ps : List Addr, xs = ps.map V.ref ∧ Paired (fun p q => H p = some (.tup [kV (entK q).1, (entK q).2])) ps Q
  | _, _, .nil => ⟨[], rfl, .nil⟩
  | _, _, .cons ⟨t, e, h⟩ r => by
    obtain ⟨ps, e2, h2⟩ := refs_run r
    exact ⟨t :: ps, by rw [e, e2]; rfl, .cons h h2⟩
theorem Paired.mapr {α β γ : Type} {F : α → β → Prop} {G : α → γ → Prop} {f : β → γ} (h : ∀ a b, F a b → G a (f b)) : ∀ {xs : List α} {ys : List β}, Paired F xs ys → Paired G xs (ys.map f)
  | _, _, .nil => .nil
  | _, _, .cons a r => .cons (h _ _ a) (Paired.mapr h r)
theorem dict_get {H : Hp} {d : Addr} {ks : List Run} {its : List Str} (c : CT ks its) (k : Str) (h : H d = some (.dK (mergeK [] (ks.map entK)))) : ∃ o, DGet H d (.str k) o ∧ o.getD (.int 0) = .int ((its.count k : Nat) : Int) := by
  rw [c.merge] at h
  exact ⟨_, DGet.k (k := Sum.inr k) h, c.get k⟩
end UP

set_option Elab.async false
set_option linter.all false
set_option maxRecDepth 100000
set_option maxHeartbeats 4000000
/-! sets of texts: set(list), len, sorted -/
namespace UP
open PySem PySem.Spec PyProof.Rows L2
/-- the text of a row -/
def kS (e : Int × Value) : Str := match e.2 with
  | .str k _ => k
  | _ => ""
def RowS (w : World) (e : Int × Value) : Prop := ∃ k tk, e = (PySem.hashStr w k, Value.str k tk)
def addS (xs : List Str) (k : Str) : List Str := if k ∈ xs then xs else k :: xs
theorem addS_mem {xs : List Str} {k x : Str} : x ∈ addS xs k ↔ x ∈ xs ∨ x = k := by
  unfold addS
  split
  · exact ⟨.inl, fun h => h.elim id fun e => e ▸ (by assumption)⟩
  · rw [List.mem_cons]; exact Or.comm
theorem addS_nodup {xs : List Str} {k : Str} (h : xs.Nodup) : (addS xs k).Nodup := by
  unfold addS
  split
  · exact h
  · exact List.nodup_cons.mpr ⟨by assumption, h⟩
theorem addS_len (xs : List Str) (k : Str) : (addS xs k).length ≤ xs.length + 1 := by
  unfold addS
  split
  · omega
  · exact Nat.le_refl _
/-- what set(ns) holds, in some order -/
def setS (ns : List Str) : List Str := ns.foldl addS []
theorem foldS_mem : ∀ (ns xs : List Str) (x : Str), x ∈ ns.foldl addS xs ↔ x ∈ xs ∨ x ∈ ns
  | [], xs, x => by simp
  | n :: t, xs, x => by
    rw [List.foldl_cons, foldS_mem t, addS_mem, List.mem_cons]
    exact or_assoc
theorem foldS_nodup : ∀ (ns xs : List Str), xs.Nodup → (ns.foldl addS xs).Nodup
  | [], _, h => h
  | n :: t, xs, h => foldS_nodup t _ (addS_nodup h)
theorem foldS_len : ∀ (ns xs : List Str), (ns.foldl addS xs).length ≤ xs.length + ns.length
  | [], xs => Nat.le_refl _
  | n :: t, xs => by
    have h1 := foldS_len t (addS xs n)
    have h2 := addS_len xs n
    rw [List.foldl_cons, List.length_cons]
    omega
theorem setS_mem {ns : List Str} {x : Str} : x ∈ setS ns ↔ x ∈ ns := by
  unfold setS
  rw [foldS_mem]
  simp
theorem setS_nodup (ns : List Str) : (setS ns).Nodup := foldS_nodup ns [] List.nodup_nil
theorem setS_len (ns : List Str) : (setS ns).length ≤ ns.length := by
  have := foldS_len ns []
  rw [List.length_nil, Nat.zero_add] at this
  exact this
theorem setS_snoc (ns : List Str) (k : Str) : setS (ns ++ [k]) = addS (setS ns) k := by
  unfold setS
  rw [List.foldl_append]
  rfl
/-- the set of texts at a, its members xs in any order -/
def SetS (w : World) (h : Heap) (a : Addr) (xs : List Str) : Prop :=
  ∃ (o : Obj) (rs : Array (Int × Value)) (ep : Nat) (tb : SetTable), (h.get? a = some o ∧ o.ExactSet ∧ o.data = .set rs ep tb) ∧ (∀ e ∈ rs.toList, RowS w e) ∧ (rs.toList.map kS).Perm xs ∧ xs.Nodup ∧
    (rs.size < scanBound ∧ tb.fits rs.size = true) ∧ Ris tb.place.toList ∧ (w.params.followText "set-order" = true ∨ tb.led = true)
section
variable {P : Program} {w : World} {A : Around} {E : Value → Shared → Prop} {s : Shared} {a : Addr} {xs : List Str}
theorem SetS.at {h h' : Heap} (R : SetS w h a xs) (k : ∀ o, h.get? a = some o → h'.get? a = some o) : SetS w h' a xs :=
  let ⟨o, rs, ep, tb, ⟨ho, hx, hd⟩, r⟩ := R
  ⟨o, rs, ep, tb, ⟨k o ho, hx, hd⟩, r⟩
theorem row_is {e : Int × Value} (g : RowS w e) (k : Str) : ((PySem.strKind P w).is k e.2 = true) ↔ kS e = k := by
  obtain ⟨z, tk, rfl⟩ := g
  exact ⟨fun h => by
    have := eq_of_beq (show (z == k) = true from h)
    exact this, fun h => (show (z == k) = true from beq_iff_eq.mpr h)⟩
theorem rows_elems {l : List (Int × Value)} (g : ∀ e ∈ l, RowS w e) : ElemsOf (PySem.strKind P w) l := fun e he => by
  obtain ⟨z, tk, rfl⟩ := g e he
  exact ⟨⟨z, (show (z == z) = true from beq_self_eq_true z), rfl⟩, rfl⟩
/-- what stands at a after a store -/
theorem stored {h : Heap} {o : Obj} {rs rs' : Array (Int × Value)} {ep : Nat} {tb tb' : SetTable} (ho : h.get? a = some o) (hd : o.data = .set rs ep tb) :
    (h.update a (Obj.putSet rs' tb')).get? a = some { o with data := .set rs' (ep + 1) tb' } := L2.store_at ho hd
/-- behind the place of a new row: stored, and laid anew where the table is full -/
theorem sS_tail {gv : Bool → Sem Unit} (hgv : ∀ (b : Bool) (z : Shared) (Qu : Unit → Shared → Prop), Qu () z → wpAny (model P w) A (gv b) Qu E z)
    {o : Obj} {rs r1 : Array (Int × Value)} {ep : Nat} {tb t1 : SetTable} (ho : s.heap.get? a = some o) (hex : o.ExactSet) (hd : o.data = .set rs ep tb) (hr1 : ∀ e ∈ r1.toList, RowS w e)
    {ys : List Str} (hp : (r1.toList.map kS).Perm ys) (hn : ys.Nodup) (hb : r1.size < scanBound) (hf : t1.fits r1.size = true) (hris : Ris t1.place.toList) (hled : w.params.followText "set-order" = true ∨ t1.led = true)
    {dum : Bool} {R : Option Bool → Shared → Prop} (hR : ∀ h', Heap.SameBut a s.heap h' → SetS w h' a ys → R (some true) { s with heap := h' }) :
    wpAny (model P w) A (do storeSet a r1 t1
                            if (!dum && t1.tooFull) = true then do
                              gv (relayAll t1 r1 (SetTable.grown r1.size)).2.2
                              storeSet a (relayAll t1 r1 (SetTable.grown r1.size)).1 (relayAll t1 r1 (SetTable.grown r1.size)).2.1
                              pure (some true)
                            else pure (some true)) R E s := by
  have same1 := Heap.SameBut.update s.heap a (Obj.putSet r1 t1)
  have at1 := stored (a := a) (rs' := r1) (tb' := t1) ho hd
  refine wpAny_bind (wpAny_storeSet_of ho hd ?_ (fits_of_scanBound hb))
  by_cases hfull : (!dum && t1.tooFull) = true
  · rw [if_pos hfull]
    have a1 := relayAll_perm t1 r1 (SetTable.grown r1.size)
    have a2 := relayAll_fits t1 r1 (SetTable.grown r1.size)
    have a3 := L2.relayAll_ris t1 r1 (SetTable.grown r1.size)
    have a4 := L2.relayAll_led t1 r1 (SetTable.grown r1.size)
    generalize relayAll t1 r1 (SetTable.grown r1.size) = Y at a1 a2 a3 a4 ⊢
    obtain ⟨r2, t2, gave⟩ := Y
    dsimp only at a1 a2 a3 a4 ⊢
    have size2 : r2.size = r1.size := by rw [← Array.length_toList, a1.length_eq, Array.length_toList]
    refine wpAny_bind (hgv _ _ _ ?_)
    refine wpAny_bind (wpAny_storeSet_of at1 rfl ?_ (fits_of_scanBound (size2.symm ▸ hb)))
    refine wpAny_pure (hR _ (same1.trans (Heap.SameBut.update _ a _)) ⟨_, r2, _, t2, ⟨stored at1 rfl, hex, rfl⟩, fun e he => hr1 e (a1.mem_iff.mp he), (a1.map kS).trans hp, hn, ⟨size2.symm ▸ hb, a2⟩, a3, hled.imp id fun z => a4.trans z⟩)
  · rw [if_neg hfull]
    exact wpAny_pure (hR _ same1 ⟨_, r1, _, t1, ⟨at1, hex, rfl⟩, hr1, hp, hn, ⟨hb, hf⟩, hris, hled⟩)
theorem sS_add {k : Str} {tk : Tok} {Q : Bool → Shared → Prop} (R : SetS w s.heap a xs) (room : xs.length + 1 < scanBound) (hQ : ∀ b h', Heap.SameBut a s.heap h' → SetS w h' a (addS xs k) → Q b { s with heap := h' }) :
    wpAny (model P w) A (setAddHashed a (.str k tk) ((PySem.strKind P w).hash k)) Q E s := by
  obtain ⟨o, rs, ep, tb, ⟨ho, hex, hd⟩, g, pm, nd, ⟨hb, hf⟩, hr, hl⟩ := R
  have el : ElemsOf (PySem.strKind P w) rs.toList := rows_elems g
  have key : (PySem.strKind P w).is k (.str k tk) = true := (show (k == k) = true from beq_self_eq_true k)
  have scn : (Value.str k tk).scannable = true := rfl
  have lenR : rs.size = xs.length := by rw [← Array.length_toList, ← pm.length_eq, List.length_map]
  have memR : ∀ z, z ∈ xs ↔ ∃ e ∈ rs.toList, (PySem.strKind P w).is z e.2 = true := fun z => by
    rw [← pm.mem_iff, List.mem_map]
    exact ⟨fun ⟨e, h1, h2⟩ => ⟨e, h1, (row_is (g e h1) z).mpr h2⟩, fun ⟨e, h1, h2⟩ => ⟨e, h1, (row_is (g e h1) z).mp h2⟩⟩
  unfold setAddHashed setAddHashedIn
  refine wpAny_holding (wpAny_bind (wpAny_setState_of ho hd hf ?_))
  dsimp only
  rw [byScan_of scn hb el]
  simp only [↓reduceIte]
  unfold setAddByScan
  refine wpAny_bind (wpAny_bind (wpAny_rule (wpAny_bind (wpAny_setScan_of key ho hd hf el ?_))))
  cases fnd : List.findIdx? (fun e => (PySem.strKind P w).is k e.2) rs.toList with
  | some j =>
    dsimp only
    obtain ⟨hj, pj, _⟩ := List.findIdx?_eq_some_iff_getElem.mp fnd
    have inx : k ∈ xs := (memR k).mpr ⟨_, List.getElem_mem hj, pj⟩
    refine wpAny_pure (wpAny_pure (hQ _ s.heap (Heap.SameBut.refl a s.heap) ?_))
    have e : addS xs k = xs := if_pos inx
    rw [e]
    exact ⟨o, rs, ep, tb, ⟨ho, hex, hd⟩, g, pm, nd, ⟨hb, hf⟩, hr, hl⟩
  | none =>
    dsimp only
    have nin : k ∉ xs := fun z => by
      obtain ⟨e, he, q⟩ := (memR k).mp z
      rw [List.findIdx?_eq_none_iff.mp fnd e he] at q
      cases q
    have e : addS xs k = k :: xs := if_neg nin
    rw [e] at hQ
    have gave' : ∀ (b : Bool) {z : Shared} {Qu : Unit → Shared → Prop}, Qu () z → wpAny (model P w) A (match b with | true => rule "set.scan.the-table-gave-way" | false => pure ()) Qu E z := fun b z Qu q => by
      cases b
      · exact wpAny_pure q
      · exact wpAny_rule q
    have b1 := layNew_perm tb rs ((PySem.strKind P w).hash k) (.str k tk)
    have b2 := layNew_fits tb rs ((PySem.strKind P w).hash k) (.str k tk)
    have b3 := L2.layNew_ris tb rs ((PySem.strKind P w).hash k) (.str k tk) hr
    have b4 := L2.layNew_led tb rs ((PySem.strKind P w).hash k) (.str k tk)
    generalize layNew tb rs ((PySem.strKind P w).hash k) (.str k tk) = Y at b1 b2 b3 b4 ⊢
    obtain ⟨r1, t1, dum, gave⟩ := Y
    dsimp only at b1 b2 b3 b4 ⊢
    rw [Array.toList_push] at b1
    have c1 : r1.toList.Perm (((PySem.strKind P w).hash k, Value.str k tk) :: rs.toList) := b1.trans (List.perm_append_singleton _ _)
    have c2 : (r1.toList.map kS).Perm (k :: xs) := (c1.map kS).trans (pm.cons k)
    have c3 : ∀ e ∈ r1.toList, RowS w e := fun e he => (List.mem_cons.mp (c1.mem_iff.mp he)).elim (fun z => ⟨k, tk, z⟩) (g e)
    have c4 : (k :: xs).Nodup := List.nodup_cons.mpr ⟨nin, nd⟩
    have c5 : r1.size < scanBound := by
      have z := c1.length_eq
      rw [Array.length_toList, List.length_cons, Array.length_toList, lenR] at z
      omega
    have c6 : w.params.followText "set-order" = true ∨ t1.led = true := hl.imp id fun z => b4.trans z
    refine wpAny_bind (gave' _ ?_)
    split
    · refine wpAny_bind ?_
      rw [hashByValue_scannable 8 scn]
      refine wpAny_pure (sS_tail ?_ ho hex hd c3 c2 c4 c5 ?_ ?_ ?_ ?_)
      · intro b z Qu q
        cases b
        · exact wpAny_pure q
        · exact wpAny_rule q
      · first | (split <;> first | exact b2 | exact SetTable.fits_plain_off b2) | exact b2
      · first | (split <;> exact b3) | exact b3
      · first | (split <;> exact c6) | exact c6
      · intro h' sb r
        dsimp only
        exact wpAny_pure (hQ _ h' sb r)
    · refine wpAny_bind (wpAny_pure ?_)
      simp only [↓reduceIte]
      refine sS_tail ?_ ho hex hd c3 c2 c4 c5 b2 b3 c6 ?_
      · intro b z Qu q
        cases b
        · exact wpAny_pure q
        · exact wpAny_rule q
      · intro h' sb r
        dsimp only
        exact wpAny_pure (hQ _ h' sb r)
theorem sS_new {h : Heap} (ho : h.get? a = some { cls := .type "set", dict := none, data := .set #[] 0 (.fresh 0 0 (!w.params.followText "set-order")) }) : SetS w h a [] := by
  refine ⟨_, #[], 0, _, ⟨ho, ⟨rfl, rfl, rfl⟩, rfl⟩, fun e he => ?_, List.Perm.refl _, List.nodup_nil, ⟨by decide, by rfl⟩, List.Pairwise.nil, ?_⟩
  · simp at he
  · show _ ∨ (!w.params.followText "set-order") = true
    cases w.params.followText "set-order"
    · exact .inr rfl
    · exact .inl rfl
/-- the walk that adds -/
theorem sS_update {I : Addr} {fp wr : List Addr} {G : Array GenState → Array GenState → Prop} {n : Nat} {Pv : Nat → Value → Prop} {St : Nat → Shared → Prop} {R : Result → Shared → Prop}
    (W : WalksS P w A.in1 I fp wr G n Pv St) (S : Addr) (out : S ∉ fp) (ns : List Str) (hn : n = ns.length) (hb : ns.length + 1 < scanBound) (hval : ∀ (i : Nat) (v : Value), Pv i v → ∃ (k : Str) (t : Tok), ns[i]? = some k ∧ v = Value.str k t) :
    ∀ (k i : Nat) (s : Shared), n - i = k → i ≤ n → St i s → SetS w s.heap S (setS (ns.take i)) → (∀ s', Moved (S :: wr) G s s' → SetS w s'.heap S (setS ns) → R (.ok (.ret .none)) s') →
      codeAny (model P w) A (.builtin "set.update.loop" ⟨[.ref S, .ref I], []⟩) R s := by
  have outW : S ∉ wr := fun h => out (W.sub _ h)
  have more : ∀ b ∈ wr, b ∈ S :: wr := fun b hb => List.mem_cons_of_mem _ hb
  intro k
  induction k with
  | zero =>
    intro i s ek hi hst hS hR
    have ei : i = n := by omega
    subst ei
    refine codeAny_builtin PyProof.Rows.F.entry_set_update_loop ?_
    rw [Around.under_plainId PyProof.Rows.F.plain_set_update_loop _]
    show wpAny _ A.in1 (pyNext (.ref I) >>= _) _ _ s
    refine wpAny_bind (W.done s _ _ hst fun s' hm => ?_)
    show wpAny _ A.in1 (ret Value.none) _ _ s'
    rw [List.take_of_length_le (Nat.le_of_eq hn.symm)] at hS
    exact wpAny_pure (hR s' (hm.mono more) (hS.at fun o e => hm.heap S o outW e))
  | succ k ih =>
    intro i s ek hi hst hS hR
    have lt : i < n := by omega
    refine codeAny_builtin PyProof.Rows.F.entry_set_update_loop ?_
    rw [Around.under_plainId PyProof.Rows.F.plain_set_update_loop _]
    show wpAny _ A.in1 (pyNext (.ref I) >>= _) _ _ s
    refine wpAny_bind (W.item i s _ _ lt hst fun v s' hP hst' hm => ?_)
    obtain ⟨z, t, hz, rfl⟩ := hval i v hP
    have hS' : SetS w s'.heap S (setS (ns.take i)) := hS.at fun o e => hm.heap S o outW e
    have lz : (setS (ns.take i)).length + 1 < scanBound := by
      have h1 := setS_len (ns.take i)
      rw [List.length_take] at h1
      omega
    show wpAny _ A.in1 (holding [Value.str z t] (setAdd S (.str z t)) >>= _) _ _ s'
    refine wpAny_bind (wpAny_holding ?_)
    unfold setAdd
    refine wpAny_holding (wpAny_bind ((PySem.strKind P w).pyHash (k := z) (show (z == z) = true from beq_self_eq_true z) ?_))
    refine sS_add (s := { s' with toks := s'.toks + 1 }) hS' lz fun b h' same hS2 => ?_
    have hS3 : SetS w h' S (setS (ns.take (i + 1))) := by
      have e : ns.take (i + 1) = ns.take i ++ [z] := by rw [List.take_add_one, hz] <;> rfl
      rw [e, setS_snoc]
      exact hS2
    refine wpAny_pure ⟨plainId_quiet PyProof.Rows.F.plain_set_update_loop _, ih (i + 1) _ (by omega) lt (W.frame _ s' _ _ hst' (Nat.le_succ _) fun b hb o e => ?_) hS3 fun s2 hm2 hS4 => ?_⟩
    · have ne : b ≠ S := fun h => out (h ▸ hb)
      rw [same.2 b ne]
      exact e
    · refine hR s2 (Moved.trans W.gtrans ((hm.mono more).then_heap (Nat.le_succ _) fun b o hb e => ?_) hm2) hS4
      have ne : b ≠ S := fun h => hb (h ▸ List.mem_cons_self)
      rw [same.2 b ne]
      exact e
abbrev freshS (w : World) : Obj := { cls := .type "set", dict := none, data := .set #[] 0 (.fresh 0 0 (!w.params.followText "set-order")) }
/-- set(l), l a list of texts -/
theorem set_strs {l : Addr} {its : Array Value} (ns : List Str) {Q : Value → Shared → Prop} (hh : A.handled = none) (hl : s.heap.IsList l its) (hz : its.size = ns.length) (hv : ∀ (i : Nat) (v : Value), its[i]? = some v → ∃ (k : Str) (t : Tok), ns[i]? = some k ∧ v = Value.str k t)
    (hb : ns.length + 1 < scanBound) (q : ∀ (h' : Heap) (tk : Nat), SetS w h' s.heap.objs.size (setS ns) → (∀ b o, s.heap.get? b = some o → h'.get? b = some o) → Q (.ref s.heap.objs.size) { s with heap := h', toks := tk }) :
    wpAny (model P w) A (call (.type "set") [.ref l]) Q E s := by
  obtain ⟨c, tl, hmro⟩ := PySem.F.called_set.mro
  have made := PySem.F.called_set.made
  have subs := PySem.F.called_set.sub
  refine wpAny_call (codeAny_of_tree ?_)
  show wpAny _ _ (callAny (.type "set") _) _ _ _
  refine wpAny_pure ⟨Code.quiet_builtin _ (by decide +kernel), codeAny_builtin PySem.F.entry_type_call ?_⟩
  rw [Around.under_plain (weight_type_call_type "set" [.ref l] []) rfl]
  have t1 := PySem.F.called_set.notType
  have t2 := PySem.F.called_set.canCreate
  have t3 := PySem.F.typeCall_set_1 (.ref l)
  repeat (any_goals (first | assumption | wp_step))
  refine codeAny_mono (L2.code_set_led1 (.ref l) (E := E) (Q₁ := fun ob z => ob = .ref s.heap.objs.size ∧ z = { s with heap := s.heap.push (freshS w) }) ⟨rfl, rfl⟩) fun r z hr => ?_
  cases r with
  | error e => exact hr
  | ok fl =>
    cases fl with
    | ret ob =>
      obtain ⟨rfl, rfl⟩ := hr
      have atS : (s.heap.push (freshS w)).get? s.heap.objs.size = some (freshS w) := Heap.get?_push_size _ rfl
      have isS : Shared.TypeIs { s with heap := s.heap.push (freshS w) } (.ref s.heap.objs.size) "set" := ⟨_, atS, rfl⟩
      have i1 := PySem.F.called_set.init.lookup
      have i2 := PySem.F.called_set.init.bind (.ref s.heap.objs.size)
      repeat (any_goals (first | assumption | wp_step))
      refine codeAny_mono (codeAny_call_builtin (R := wants (fun r z => r = .none ∧ ∃ h' tk, z = { s with heap := h', toks := tk } ∧ SetS w h' s.heap.objs.size (setS ns) ∧ (∀ b o, s.heap.get? b = some o → h'.get? b = some o)) E)
        PySem.F.called_set.init.plain PySem.F.entry_set_init (check_set_init_1 isS ?_)) fun r2 z2 hr2 => ?_
      · obtain ⟨ol, hol, hcl, nl, hdl⟩ := hl
        obtain ⟨ocls, odict, odata, oslots⟩ := ol
        simp only at hcl hdl
        subst hcl
        subst hdl
        have hol2 : (s.heap.push (freshS w)).get? l = some { cls := .type "list", dict := odict, data := .seq its nl, slots := oslots } := Heap.get?_push_of_some _ hol
        have u1 := PySem.F.sub_list_set
        have u2 := PySem.F.sub_list_frozenset
        have u3 : (Value.type "list" == Value.type "dict") = false := by decide
        have isL : (s.heap.push (freshS w)).IsList l its := ⟨_, hol2, rfl, nl, rfl⟩
        unfold Builtin.«set.__init__» noKeywords Builtin.Frozenset.updateFrom
        generalize ePI : pyIter = PI
        wp_walk
        subst ePI
        refine wpAny_pyIter_list isL ?_
        refine wpAny_bind (wpAny_runValue ?_)
        have lt : l < s.heap.objs.size := Heap.lt_size hol
        have cold : A.in1.in1.in1.handled = none := by simp [hh]
        have sz1 : (s.heap.push (freshS w)).objs.size = s.heap.objs.size + 1 := Heap.size_push ..
        have neI : l ≠ (s.heap.push (freshS w)).objs.size := sz1.symm ▸ Nat.ne_of_lt (Nat.lt_succ_of_lt lt)
        have notIn : s.heap.objs.size ∉ [(s.heap.push (freshS w)).objs.size, l] := by
          rw [sz1]
          intro hm
          rcases List.mem_cons.mp hm with e | e
          · exact Nat.ne_of_lt (Nat.lt_succ_self _) e
          · exact Nat.ne_of_gt lt (List.mem_singleton.mp e)
        refine sS_update ((Walks.list cold _ l neI its).toS) s.heap.objs.size notIn ns hz hb hv (its.size - 0) 0 _ (by omega) (Nat.zero_le _) ⟨⟨_, Heap.get?_push_size _ rfl, rfl, rfl⟩, (isL.push _)⟩ ?first ?last
        case first => exact sS_new (Heap.get?_push_of_some _ atS)
        case last =>
          intro s' hm hS'
          obtain ⟨h', g2, d2, tk2, os2⟩ := s'
          have eg : g2 = s.gens := hm.gens
          have ed : d2 = s.drawn := hm.drawn
          have eo : os2 = s.os := hm.os
          subst eg
          subst ed
          subst eo
          show wpAny _ _ _ _ _ _
          refine wpAny_pure ?_
          show wpAny _ _ (ret Value.none) _ _ _
          refine wpAny_pure ⟨rfl, h', tk2, rfl, hS', fun b o e => ?_⟩
          have lb : b < s.heap.objs.size := Heap.lt_size e
          refine hm.heap b o (fun z => ?_) (Heap.get?_push_of_some _ (Heap.get?_push_of_some _ e))
          rcases List.mem_cons.mp z with z | z
          · exact Nat.ne_of_lt lb z
          · exact Nat.ne_of_lt (Nat.lt_succ_of_lt lb) ((List.mem_singleton.mp z).trans sz1)
      · cases r2 with
        | error e => exact hr2
        | ok fl2 =>
          cases fl2 with
          | ret r =>
            obtain ⟨rfl, h', tk2, rfl, hS', hk⟩ := hr2
            repeat (any_goals (first | assumption | wp_step))
            exact q _ _ hS' hk
          | _ => exact hr2.elim
    | _ => exact hr.elim
theorem strs_rows : ∀ (l : List Value) (ys : List Str), (∀ v ∈ l, ∃ k tk, v = Value.str k tk) → l.map (fun v => match v with | .str k _ => k | _ => "") = ys → StrsAre l ys
  | [], _, _, rfl => .nil
  | v :: l, _, h, rfl => by
    obtain ⟨k, tk, rfl⟩ := h v List.mem_cons_self
    exact .cons k tk (strs_rows l _ (fun u hu => h u (List.mem_cons_of_mem _ hu)) rfl)
/-- sorted(set) -/
theorem sorted_setS {Q : Value → Shared → Prop} (R : SetS w s.heap a xs) (hh : A.handled = none) (h64 : xs.length < 64)
    (q : ∀ s' p (out : Array Value) (c : Nat) (ys : List Str), (∀ b o, s.heap.get? b = some o → s'.heap.get? b = some o) → s'.gens = s.gens → s'.os = s.os → s.heap.objs.size ≤ p → s'.heap.get? p = some (seqObj "list" out c) →
      StrsAre out.toList ys → ys.Perm xs → sortedS ys = true → Q (.ref p) s') : wpAny (model P w) A (call (.builtin "sorted") [.ref a]) Q E s := by
  obtain ⟨o, rs, ep, tb, ⟨ho, hex, hd⟩, g, pm, nd, ⟨hb, hf⟩, hr, hl⟩ := R
  refine Calls.call_function_entry kind_sorted plain_sorted entry_sorted (args_sorted1 _) ?_
  unfold Builtin.«sorted»
  refine wpAny_bind (m := checkCount "sorted" 1 1 _) (wpAny_pure ?_)
  refine wpAny_bind (L2.collect_set (A := A.in1) hh ⟨o, ho, hex.1, hd⟩ hf hb hr hl fun s1 vs k1 hz g1 o1 pv => ?_)
  have lv : vs.length = xs.length := by rw [pv.length_eq, List.length_map, ← pm.length_eq, List.length_map]
  have sv : StrsAre vs (vs.map fun v => match v with | .str k _ => k | _ => "") := strs_rows vs _ (fun v hv => by
    obtain ⟨e, he, rfl⟩ := List.mem_map.mp (pv.mem_iff.mp hv)
    obtain ⟨k, tk, rfl⟩ := g e he
    exact ⟨k, tk, rfl⟩) rfl
  have pk : (vs.map fun v => match v with | .str k _ => k | _ => "").Perm xs := by
    have z := pv.map fun v => match v with | .str k _ => k | _ => ""
    rw [List.map_map] at z
    exact z.trans pm
  refine wpAny_bind (wpAny_newList ?_ (by rw [lv, sizeLine_eq]; omega))
  have atL : (s1.heap.push (seqObj "list" vs.toArray 0)).get? s1.heap.objs.size = some (seqObj "list" vs.toArray 0) := Heap.get?_push_size _ rfl
  refine wpAny_bind (wpAny_holding (wpAny_call_entry slot_list_sort ⟨_, atL, rfl⟩ entry_list_sort
    (list_sort_treeK strKind_oneLt atL sv.keysOf (fun v₁ v₂ rest e => keyKind_strs (by rw [← e]; exact sv)) (by rw [lv]; exact h64) fun st' hp hs => ⟨_, rfl, ?_⟩) (args_list_sort _)))
  obtain ⟨ys, y1, y2, y3⟩ := sorted_out_str sv hp hs
  obtain ⟨c, hc⟩ := sortedHeap_at (vs := vs) (out := (arrOf st').map (·.2)) atL
  refine wpAny_pure ⟨_, rfl, q _ s1.heap.objs.size _ c ys (fun b u e => ?_) g1 o1 hz hc y1 (y2.trans pk) y3⟩
  have z := k1 b u e
  have lt := Heap.lt_size z
  show (sortedHeap (s1.heap.push (seqObj "list" vs.toArray 0)) s1.heap.objs.size vs ((arrOf st').map (·.2))).get? b = some u
  rw [sortedHeap_old (Nat.ne_of_lt lt) (by rw [size_push']; exact Nat.lt_succ_of_lt lt)]
  exact Heap.get?_push_of_some _ z
end
/-- the set in the mirror heap -/
def StS (w : World) (a : Addr) (xs : List Str) : HO := .ext fun h => SetS w h a xs
theorem stS_ok {P : Program} {w : World} {H : Hp} {h : Heap} {a : Addr} {xs : List Str} (R : SetS w h a xs) : ObjOk P w H h a (StS w a xs) :=
  ⟨R, (let ⟨o, _, _, _, ⟨ho, _⟩, _⟩ := R; ⟨o, ho⟩), fun h1 h2 p k => SetS.at p k⟩
section
variable {X : Cx}
def rSetS (K : PySem.W.Frag) (w : World) : List V → Hp → VK → Prop := fun vs H Q => ∃ (l : Addr) (ns : List Str), vs = [V.ref l] ∧ SqL K H l (ns.map V.str) ∧ ns.length + 1 < scanBound ∧ ∀ a, H a = none → Q (.ref a) (upd H a (StS w a (setS ns)))
theorem cr_setS (hc : X.calm = true) : CallR X (.type "set") (rSetS X.K X.w) := by
  intro pins s σ H vs us Q I r h
  obtain ⟨l, ns, rfl, hl, hb, q⟩ := h
  rw [Vals.ref1 r]
  obtain ⟨its, rv, pl, _⟩ := I.list hl
  have hz : its.toArray.size = ns.length := by rw [List.size_toArray, ← rv.length, List.length_map]
  refine set_strs (P := X.prog) (w := X.w) ns (I.ok.hd hc) pl.isList hz (fun i v hv => ?_) hb fun h' tk R k => ?_
  · have lt : i < ns.length := by
      rw [← hz]
      exact (Array.getElem?_eq_some_iff.mp hv).1
    obtain ⟨u, hu, t, et⟩ := rv.get (i := i) (x := .str ns[i]) (by simp [lt])
    have ev : its[i]? = some v := by simpa using hv
    rw [hu] at ev
    exact ⟨ns[i], t, List.getElem?_eq_getElem lt, (Option.some.inj ev).symm.trans et⟩
  · exact ⟨.ref s.heap.objs.size, upd H s.heap.objs.size (StS X.w s.heap.objs.size (setS ns)), I.laid (t' := tk) k (Nat.le_refl _) (stS_ok R), rfl, q _ (I.hok.fresh (Nat.le_refl _))⟩
def rSortSS (w : World) : List V → Hp → VK → Prop := fun vs H Q => ∃ (a : Addr) (xs : List Str), vs = [V.ref a] ∧ H a = some (StS w a xs) ∧ xs.length < 64 ∧ ∀ (ys : List Str) (p : Addr), ys.Perm xs → sortedS ys = true → H p = none → Q (.ref p) (upd H p (.lst (ys.map V.str)))
theorem cr_sortSS (hc : X.calm = true) : CallR X (.builtin "sorted") (rSortSS X.w) := by
  intro pins s σ H vs us Q I r h
  obtain ⟨a, xs, rfl, ha, h64, q⟩ := h
  have R : SetS X.w s.heap a xs := (I.hok a _ ha).1
  rw [Vals.ref1 r]
  refine sorted_setS R (I.ok.hd hc) h64 fun s' p out c ys k g o hp hg hs pm so => ?_
  have few : (ys.map V.str).length ≤ sizeLine := by rw [List.length_map, pm.length_eq, sizeLine_eq]; omega
  have hn : H p = none := I.hok.fresh hp
  have J : Inv X pins σ (upd H p (.lst (ys.map V.str))) { s with heap := s'.heap, gens := s'.gens, drawn := s'.drawn, toks := s'.toks } :=
    I.call (ch := []) (Un.laid k hp hn) (I.hok.laid k hp ⟨few, out.toList, c, vals_of_strs hs, hg⟩) (by rw [g]; exact I.bare) (fun _ z => nomatch z)
  have e : s' = { s with heap := s'.heap, gens := s'.gens, drawn := s'.drawn, toks := s'.toks } := by
    cases s'
    cases s
    cases o
    rfl
  rw [e]
  exact ⟨.ref p, _, J, rfl, q ys p pm so hn⟩
def rLenSS (w : World) : List V → Hp → VK → Prop := fun vs H Q => ∃ (a : Addr) (xs : List Str), vs = [V.ref a] ∧ H a = some (StS w a xs) ∧ Q (.int (xs.length : Nat)) H
theorem cr_lenSS : CallR X (.builtin "len") (rLenSS X.w) := by
  intro pins s σ H vs us Q I r h
  obtain ⟨a, xs, rfl, ha, q⟩ := h
  obtain ⟨o, rs, ep, tb, ⟨ho, hex, hd⟩, _, pm, _, ⟨hb, hf⟩, _⟩ := (show SetS X.w s.heap a xs from (I.hok a _ ha).1)
  have e : rs.size = xs.length := by rw [← Array.length_toList, ← pm.length_eq, List.length_map]
  rw [Vals.ref1 r]
  have few : (rs.size : Int) < 2 ^ 63 := by
    unfold scanBound at hb
    omega
  exact call_len_set ho hex hd hf few ⟨.int (xs.length : Nat), H, I.tok _, ⟨_, by rw [e]⟩, q⟩
/-! the same, the frag and the world named -/
theorem cr_setSw {K : PySem.W.Frag} {w : World} (hK : X.K = K) (hw : X.w = w) (hc : X.calm = true) : CallR X (.type "set") (rSetS K w) := by
  subst hK
  subst hw
  exact cr_setS hc
theorem cr_sortSSw {w : World} (hw : X.w = w) (hc : X.calm = true) : CallR X (.builtin "sorted") (rSortSS w) := by
  subst hw
  exact cr_sortSS hc
theorem cr_lenSSw {w : World} (hw : X.w = w) : CallR X (.builtin "len") (rLenSS w) := by
  subst hw
  exact cr_lenSS
end
end UP

set_option Elab.async false
set_option linter.all false
set_option maxRecDepth 100000
set_option maxHeartbeats 4000000
set_option pp.maxSteps 600
namespace UP
open PySem PySem.Spec PyProof.Rows L2 L2.DX
/-! ### list.count of a text -/
theorem count_strs {k : Str} : ∀ {ys : List Str} {us : List Value}, Vals (ys.map V.str) us → us.countP (eqU (.str k)) = ys.count k
  | [], _, .nil => rfl
  | y :: ys, u :: us, .cons r t => by
    obtain ⟨tk, rfl⟩ := r
    have ih := count_strs (k := k) t
    rw [List.countP_cons, ih, List.count_cons]
    congr 1
section
variable {X : Cx}
def rCntS (K : PySem.W.Frag) : V → List V → Hp → VK → Prop := fun x xs H Q => ∃ (p : Addr) (ys : List Str) (k : Str), x = .ref p ∧ xs = [.str k] ∧ SqL K H p (ys.map V.str) ∧ Q (.int (ys.count k : Nat)) H
theorem mt_countS : MtR X "list.count" (rCntS X.K) := by
  intro pins s σ H x xs v us Q I rx rs h
  obtain ⟨p, ys, k, rfl, rfl, hs, q⟩ := h
  cases rx
  obtain ⟨u, rfl, t, rfl⟩ := vals1 rs
  obtain ⟨its, r, ⟨⟨cls, dd, dt, sl⟩, n, ho, hc, hn, hd⟩, hz⟩ := I.list hs
  simp only at hc hd
  subst hc
  subst hd
  refine call_meets PySem.F.slot_list_count ⟨_, ho, rfl⟩ PySem.F.entry_list_count (PySem.F.args_list_count_2 _ _) (SeqAt.list_countAt p its.toArray n dd sl (.str k t) (eqU (.str k)))
    ⟨ho, fun y hy => mem_eqAt (x := .str k) ⟨t, rfl⟩ rfl r (by rw [List.all_map, List.all_eq_true]; intro z _; rfl) y (by simpa using hy), ?_⟩
  refine ⟨.int (ys.count k : Nat), H, I.tok _, ⟨s.toks, ?_⟩, q⟩
  show Value.int ((its.toArray.toList.countP (eqU (.str k)) : Nat) : Int) s.toks = _
  rw [show its.toArray.toList = its from rfl, count_strs r]
theorem mt_countSK {K : PySem.W.Frag} (h : X.K = K) : MtR X "list.count" (rCntS K) := h ▸ mt_countS
end
/-! ### counts multiplied -/
theorem scR_snoc (t : Int) (l : List Run) (r : Run) : scR t (l ++ [r]) = scR t l ++ [(r.1, r.2 * t)] := by
  unfold scR
  rw [List.map_append]
  rfl
theorem sc_addR (t : Int) (rs : List Run) (k : Str) : addR (scR t rs) (k, t) = scR t (addR rs (k, 1)) := by
  rcases List.eq_nil_or_concat rs with e0 | ⟨R0, l, e0⟩
  · subst e0
    show [(k, t)] = [(k, 1 * t)]
    rw [Int.one_mul]
  · rw [List.concat_eq_append] at e0
    subst e0
    rw [scR_snoc]
    by_cases h : l.1 = k
    · rw [addR_more R0 l (k, 1) h, addR_more (scR t R0) _ _ (show l.1 = k from h), scR_snoc]
      show _ ++ [(k, l.2 * t + t)] = _ ++ [(k, (l.2 + 1) * t)]
      rw [Int.add_mul, Int.one_mul]
    · have g1 : ∀ y, (R0 ++ [l]).getLast? = some y → y.1 ≠ k := fun y hy => by
        rw [List.getLast?_concat] at hy
        cases hy
        exact h
      have g2 : ∀ y, (scR t R0 ++ [(l.1, l.2 * t)]).getLast? = some y → y.1 ≠ k := fun y hy => by
        rw [List.getLast?_concat] at hy
        cases hy
        exact h
      rw [addR_new (r := (k, 1)) g1, addR_new (r := (k, t)) g2, scR_snoc, scR_snoc]
      show _ ++ [(k, t)] = _ ++ [(k, 1 * t)]
      rw [Int.one_mul]
theorem it_sc {t : Int} (ht : 1 ≤ t) : ∀ {rs : List Run}, (∀ r ∈ rs, 1 ≤ r.2) → itR (scR t rs) = (itR rs).flatMap fun k => List.replicate t.toNat k
  | [], _ => rfl
  | r :: l, p => by
    have c1 := p r List.mem_cons_self
    have ih := it_sc ht (rs := l) fun x hx => p x (List.mem_cons_of_mem _ hx)
    show List.replicate (r.2 * t).toNat r.1 ++ itR (scR t l) = ((List.replicate r.2.toNat r.1) ++ itR l).flatMap _
    rw [ih, List.flatMap_append]
    congr 1
    obtain ⟨n, hn⟩ : ∃ n : Nat, r.2 = (n : Int) := ⟨r.2.toNat, by omega⟩
    obtain ⟨m, hm⟩ : ∃ m : Nat, t = (m : Int) := ⟨t.toNat, by omega⟩
    rw [hn, hm, ← Int.natCast_mul, Int.toNat_natCast, Int.toNat_natCast, Int.toNat_natCast]
    clear hn c1 ih p
    induction n with
    | zero => rw [Nat.zero_mul]; rfl
    | succ n ih => rw [Nat.succ_mul, Nat.add_comm, ← List.replicate_append_replicate, List.replicate_succ, List.flatMap_cons, ← ih]
theorem rep_len {α : Type} (m : Nat) : ∀ l : List α, (l.flatMap fun k => List.replicate m k).length = l.length * m
  | [] => (Nat.zero_mul m).symm
  | k :: l => by
    rw [List.flatMap_cons, List.length_append, List.length_replicate, rep_len m l, List.length_cons, Nat.succ_mul, Nat.add_comm]
theorem rep_take {α : Type} (m : Nat) : ∀ (l : List α) (i : Nat), (l.flatMap fun k => List.replicate m k).take (i * m) = (l.take i).flatMap fun k => List.replicate m k
  | [], i => by simp
  | k :: l, 0 => by simp
  | k :: l, i + 1 => by
    rw [List.flatMap_cons, List.take_succ_cons, List.flatMap_cons, Nat.succ_mul, Nat.add_comm, List.take_append, List.length_replicate, List.take_of_length_le (by rw [List.length_replicate]; omega), show m + i * m - m = i * m by omega, rep_take m l i]
theorem rep_drop {α : Type} (m : Nat) : ∀ (l : List α) (i : Nat), (l.flatMap fun k => List.replicate m k).drop (i * m) = (l.drop i).flatMap fun k => List.replicate m k
  | [], i => by simp
  | k :: l, 0 => by simp
  | k :: l, i + 1 => by
    rw [List.flatMap_cons, List.drop_succ_cons, Nat.succ_mul, Nat.add_comm, List.drop_append, List.length_replicate, List.drop_of_length_le (by rw [List.length_replicate]; omega), show m + i * m - m = i * m by omega, rep_drop m l i, List.nil_append]
theorem rep_get {α : Type} {m : Nat} {l : List α} {i d : Nat} {k : α} (h : l[i]? = some k) (hd : d < m) : (l.flatMap fun k => List.replicate m k)[i * m + d]? = some k := by
  have e := rep_drop m l i
  have hi : i < l.length := (List.getElem?_eq_some_iff.mp h).1
  have e2 : (l.drop i) = k :: l.drop (i + 1) := by
    rw [List.drop_eq_getElem_cons hi]
    congr 1
    rw [List.getElem?_eq_getElem hi] at h
    exact Option.some.inj h
  have e3 := congrArg (fun z => z[d]?) e
  simp only [List.getElem?_drop] at e3
  rw [e3, e2, List.flatMap_cons, List.getElem?_append_left (by rw [List.length_replicate]; exact hd), List.getElem?_replicate, if_pos hd]
theorem rep_count {m : Nat} (k : Str) : ∀ l : List Str, (l.flatMap fun k => List.replicate m k).count k = l.count k * m
  | [] => (Nat.zero_mul m).symm
  | x :: l => by
    rw [List.flatMap_cons, List.count_append, rep_count k l, List.count_replicate, List.count_cons, Nat.add_mul]
    by_cases e : x = k
    · subst e
      simp [Nat.add_comm]
    · simp [e]
theorem rep_mem {m : Nat} (hm : 1 ≤ m) {k : Str} {l : List Str} : k ∈ (l.flatMap fun k => List.replicate m k) ↔ k ∈ l := by
  rw [List.mem_flatMap]
  exact ⟨fun ⟨x, hx, e⟩ => (List.eq_of_mem_replicate e) ▸ hx, fun h => ⟨k, h, List.mem_replicate.mpr ⟨by omega, rfl⟩⟩⟩
/-! ### counts of all kinds, sorted -/
theorem rising_pw : ∀ (l : List Str) (p : Str), risingS p l = true → (p :: l).Pairwise fun x y => ¬ y.cps.toList < x.cps.toList
  | [], p, _ => List.pairwise_singleton _ _
  | x :: l, p, h => by
    have h : (!ltCps x.cps.toList p.cps.toList && risingS x l) = true := h
    rw [Bool.and_eq_true] at h
    have hx : ¬ x.cps.toList < p.cps.toList := by
      have h1 := h.1
      rw [ltCps_eq] at h1
      intro z
      rw [decide_eq_true z] at h1
      cases h1
    have ih := rising_pw l x h.2
    refine List.pairwise_cons.mpr ⟨fun y hy => ?_, ih⟩
    rcases List.mem_cons.mp hy with e | e
    · rw [e]
      exact hx
    · intro z
      have hy2 := (List.pairwise_cons.mp ih).1 y e
      exact hx (List.lt_of_le_of_lt (List.not_lt.mp hy2) z)
theorem sorted_pw {ys : List Str} (h : sortedS ys = true) (nd : ys.Nodup) : ys.Pairwise fun x y => x.cps.toList < y.cps.toList := by
  cases ys with
  | nil => exact .nil
  | cons p l => exact (List.Pairwise.and nd (rising_pw l p h)).imp fun {x y} z => lt_of_not z.1 z.2
theorem str_atW {l : List Str} {i : Nat} {x : V} (h : (l.map V.str)[i]? = some x) : ∃ k, l[i]? = some k ∧ x = .str k := by
  rw [List.getElem?_map] at h
  obtain ⟨k, ek, rfl⟩ := Option.map_eq_some_iff.mp h
  exact ⟨k, ek, rfl⟩
def cntL (its : List Str) (t : Int) (ys : List Str) : List Run := ys.map fun k => (k, ((its.count k : Nat) : Int) * t)
theorem cnt_eq {its : List Str} {t : Int} (ht : 1 ≤ t) {rs out : List Run} {ys : List Str} (pos : ∀ r ∈ rs, 1 ≤ r.2) (e : itR rs = its) (pm : ys.Perm (setS its)) (so : sortedS ys = true) (c : CT out (itR (scR t rs))) (s : out.Pairwise fun x y => UPS.lexS y x = false) :
    out = cntL its t ys := by
  have nd : ys.Nodup := pm.nodup_iff.mpr (setS_nodup its)
  have hm : 1 ≤ t.toNat := by omega
  rw [it_sc ht pos, e] at c
  have cv : ∀ k, ((((its.flatMap fun k => List.replicate t.toNat k).count k : Nat)) : Int) = ((its.count k : Nat) : Int) * t := fun k => by
    rw [rep_count, Int.natCast_mul, Int.toNat_of_nonneg (by omega)]
  refine uniq_sorted (c.strict s) (List.pairwise_map.mpr (sorted_pw so nd)) fun x => ?_
  constructor
  · intro hx
    have hk := (c.cov x.1).mpr (List.mem_map.mpr ⟨x, hx, rfl⟩)
    refine List.mem_map.mpr ⟨x.1, pm.mem_iff.mpr (setS_mem.mpr ((rep_mem hm).mp hk)), ?_⟩
    rw [← cv, ← c.val x hx]
  · intro hx
    obtain ⟨k, hk, rfl⟩ := List.mem_map.mp hx
    have h1 := (c.cov k).mp ((rep_mem hm).mpr (setS_mem.mp (pm.mem_iff.mp hk)))
    obtain ⟨x, hx, ex⟩ := List.mem_map.mp h1
    have : x = (k, ((its.count k : Nat) : Int) * t) := Prod.ext ex (by rw [c.val x hx, ex, cv])
    rw [← this]
    exact hx
section
variable {P : Program} {w : World} {K : PySem.W.Frag} {mg : Str → Option Value} {base : Heap}
/-! _law_items: slots 0:sequence 1:found 2:kind 3:count -/
abbrev s_law_items : Stmt := topS 32
theorem sc_law_items : FnScope ["sequence", "found", "kind", "count"] ["sequence"] (defScope s_law_items) := ⟨rfl, rfl, rfl, by decide +kernel, rfl, by decide +kernel, by decide +kernel⟩
def sp_law_items : Sp := fun vs H Q _ => ∃ (v : V) (rs : List Run), vs = [v] ∧ RunsG H v rs ∧ (∀ r ∈ rs, 1 ≤ r.2) ∧ lenR rs ≤ 100000 ∧ ∀ H' p, Same H H' → H p = none → H' p = some (.lst ((itR rs).map V.str)) → Q (.ref p) H'
theorem ok_law_items (D : Df K mg "_law_items" s_law_items) : Has P w K mg base 1 "_law_items" ["sequence"] sp_law_items := by
  refine has_of D sc_law_items (fun _ _ _ _ _ _ us hl => match us, hl with | [_], _ => rfl) (fun vs H Q E h => ?_) (fun f cdv A outer s₀ H vs Q E hr h => ?_)
  · obtain ⟨a, R, rfl, _⟩ := h
    rfl
  · obtain ⟨v, rs, rfl, ⟨a, xs, rfl, hx, hpr⟩, pos, l4, q⟩ := h
    have lenq := len_it rs pos
    have lx : xs.length = rs.length := Paired.len hpr
    refine ⟨_, (pss_cons (ps_set (i := 1) sc_law_items.nd rfl (by first | exact Or.inl rfl | exact Or.inr rfl) (pe_lst pa_nil))
    (pss_cons (ps_for PassesOwn.never rfl (pi_seqV 0) (pg_any (n := 2) rfl (pgs_cons (pg_name (i := 2) sc_law_items.nd rfl (by first | exact Or.inl rfl | exact Or.inr rfl)) (pgs_cons (pg_name (i := 3) sc_law_items.nd rfl (by first | exact Or.inl rfl | exact Or.inr rfl)) pgs_nil)))
      (pss_one (ps_set (i := 1) sc_law_items.nd rfl (by first | exact Or.inl rfl | exact Or.inr rfl) (pe_op op_cat (pv 1) (pe_op op_rep (pe_lst (pa_cons (pv 2) pa_nil)) (pv 3))))))
    (pss_one (ps_ret (pv 1))))), ?_⟩
    refine ⟨Nat.zero_le _, fun p0 np0 => ?_⟩
    refine ⟨a, xs, rfl, hx.same (same_upd np0), fun J wk => for_wk wk (fun i σ H' => ∃ p y2 y3, σ = [some (.ref a), some (.ref p), y2, y3] ∧ Same (upd H p0 (.lst [])) H' ∧ H p = none ∧ H' p = some (.lst ((itR (rs.take i)).map V.str))) (fun i σ H' hP => by obtain ⟨_, _, _, _, s, _⟩ := hP; exact s)
      ⟨p0, none, none, rfl, Same.refl _, np0, upd_same⟩ (fun i x σ H4 ex hP => ?_) (fun σ H4 hP => ?_)⟩
    · obtain ⟨p, y2, y3, rfl, sm, npH, hL⟩ := hP
      obtain ⟨r, er, hr1⟩ := Paired.at hpr ex
      obtain ⟨t, rfl, ht⟩ := RunG.same ((same_upd np0).trans sm) hr1
      have c1 := pos r (List.mem_of_getElem? er)
      have e2 : itR (rs.take (i + 1)) = itR (rs.take i) ++ List.replicate r.2.toNat r.1 := by rw [take_snoc er, itR_snoc]
      have le : ((itR (rs.take i)).length + r.2.toNat : Nat) ≤ 100000 := by
        have a1 : (itR (rs.take (i + 1)) ++ itR (rs.drop (i + 1))) = itR rs := by
          unfold itR
          rw [← List.flatMap_append, List.take_append_drop]
        have a2 := congrArg List.length a1
        rw [List.length_append, e2, List.length_append, List.length_replicate] at a2
        omega
      refine ⟨t, _, rfl, ht, rfl, _, _, rfl, _, _, rfl, rfl, ?_⟩
      refine ⟨_, rfl, _, rfl, (by show 1 ≤ sizeLine; decide), fun l1 m1 => ?_⟩
      refine ⟨_, rfl, l1, r.2, [.str r.1], rfl, rfl, upd_same, by omega, by omega, smallE (by show 1 * r.2.toNat ≤ 1000000; omega), fun l2 m2 => ?_⟩
      rw [flat_one]
      have s5 := sm.trans ((same_upd (o := .lst [.str r.1]) m1).trans (same_upd (o := .lst (List.replicate r.2.toNat (.str r.1))) m2))
      refine ⟨p, l2, _, _, rfl, rfl, same_upd m2 _ _ (same_upd m1 _ _ hL), upd_same, ?_, fun l3 m3 => ⟨l3, _, _, rfl, s5.trans (same_upd m3), ((same_upd np0).trans s5).free m3, ?_⟩⟩
      · rw [List.length_map, List.length_replicate]
        exact smallE (by omega)
      · rw [upd_same, e2, List.map_append, List.map_replicate]
    · obtain ⟨p, y3, y4, rfl, sm, npH, hL⟩ := hP
      rw [lx, List.take_length] at hL
      exact ⟨_, rfl, q H4 p ((same_upd np0).trans sm) npH hL⟩
/-! _law_runs: slots 0:items 1:times 2:found 3:kind -/
abbrev s_law_runs : Stmt := topS 33
theorem sc_law_runs : FnScope ["items", "times", "found", "kind"] ["items", "times"] (defScope s_law_runs) := ⟨rfl, rfl, rfl, by decide +kernel, rfl, by decide +kernel, by decide +kernel⟩
def sp_law_runs : Sp := fun vs H Q _ => ∃ (a : Addr) (its : List Str) (t : Int), vs = [.ref a, .int t] ∧ H a = some (.lst (its.map V.str)) ∧ its.length ≤ 100000 ∧ (∀ k ∈ its, KindOk k) ∧ 1 ≤ t ∧ t ≤ 10000000000000000000000000000 ∧ ∀ H' p, Same H H' → H p = none → Runs H' p (scR t (runR its)) → Q (.ref p) H'
theorem ok_law_runs (D : Df K mg "_law_runs" s_law_runs) : Has P w K mg base 1 "_law_runs" ["items", "times"] sp_law_runs := by
  refine has_of D sc_law_runs (fun _ _ _ _ _ _ us hl => match us, hl with | [_, _], _ => rfl) (fun vs H Q E h => ?_) (fun f cdv A outer s₀ H vs Q E hr h => ?_)
  · obtain ⟨a, R, n, rfl, _⟩ := h
    rfl
  · obtain ⟨a, its, t, rfl, ha, l4, okk, t1, t2, q⟩ := h
    refine ⟨_, (pss_cons (ps_set (i := 2) sc_law_runs.nd rfl (by first | exact Or.inl rfl | exact Or.inr rfl) (pe_lst pa_nil))
    (pss_cons (ps_for PassesOwn.never rfl (pi_list (pv 0)) (pg_name (i := 3) sc_law_runs.nd rfl (by first | exact Or.inl rfl | exact Or.inr rfl))
      (pss_one (ps_if (PW.pt (pw_and (pt_cmpR (op_neD hr.units) (pv 2) (pe_lst pa_nil) (nomark _)) (pw_and1 (pt_cmpR op_eq (pe_ix ix_tup (pe_ix ix_list (pv 2) (pe_un un_neg pe_int) (fun _ _ => rfl)) pe_int (fun _ _ => rfl)) (pv 3) (nomark _))))) (pss_one (ps_asg (pe_tup (pa_cons (pv 3) (pa_cons (pe_op op_add (pe_ix ix_tup (pe_ix ix_list (pv 2) (pe_un un_neg pe_int) (fun _ _ => rfl)) pe_int (fun _ _ => rfl)) (pv 1)) pa_nil))) (pg_sub (pv 2) (pe_un un_neg pe_int) set_list))) (pss_one (ps_expr (pe_bm PySem.F.plainAttrs_list PySem.F.slot_list_append PySem.F.type_list_append mt_append (pv 2) (pa_cons (pe_tup (pa_cons (pv 3) (pa_cons (pv 1) pa_nil))) pa_nil)))))))
    (pss_one (ps_ret (pv 2))))), ?_⟩
    refine ⟨Nat.zero_le _, fun p np => ?_⟩
    have ap : a ≠ p := ne_of_none ha np
    refine ⟨_, rfl, a, rfl, ⟨_, .of (same_upd np _ _ ha)⟩, for_list (K := K) (a := a) (xs := its.map V.str) (fun i σ H' => ∃ y3, σ = [some (.ref a), some (.int t), some (.ref p), y3] ∧ Same H H' ∧ Runs H' p (scR t (runR (its.take i))) ∧ ∀ r ∈ runR (its.take i), 1 ≤ r.2)
      ⟨none, rfl, same_upd np, ⟨[], upd_same, .nil⟩, fun r h => by cases h⟩ (fun i σ H' _ hP => ?_) (fun i x σ H1 ex hP => ?_) (fun σ H1 hP => ?_)⟩
    · obtain ⟨_, _, sm, _⟩ := hP
      exact .of (sm _ _ ha)
    · obtain ⟨y3, rfl, sm, ⟨xs, hx, hp⟩, pos⟩ := hP
      obtain ⟨k, ek, rfl⟩ := str_atW ex
      have hi : i < its.length := (List.getElem?_eq_some_iff.mp ek).1
      have al := runs_all (its.take (i + 1))
      rw [take_snoc ek, runR_snoc] at al ⊢
      have posN := al.pos
      rw [← sc_addR]
      have lr : (scR t (runR (its.take i))).length ≤ 100000 := by
        have h1 := runR_len (its.take i)
        unfold scR
        rw [List.length_map]
        rw [List.length_take] at h1
        omega
      have okR : ∀ r ∈ scR t (runR (its.take i)), KindOk r.1 := fun r hr => by
        obtain ⟨x, hx, rfl⟩ := List.mem_map.mp hr
        exact okk _ (List.mem_of_mem_take ((runs_all (its.take i)).mem x hx))
      generalize hrs : scR t (runR (its.take i)) = rs at hp lr okR ⊢
      have lx : xs.length = rs.length := Paired.len hp
      have app : ∀ (u : Addr), H1 u = none → (addR rs (k, t) = rs ++ [(k, t)]) → ∃ y3, [some (V.ref a), some (V.int t), some (V.ref p), some (V.str k)] = [some (.ref a), some (.int t), some (.ref p), y3] ∧ Same H (upd (upd H1 u (.tup [.str k, .int t])) p (.lst (xs ++ [.ref u]))) ∧ Runs (upd (upd H1 u (.tup [.str k, .int t])) p (.lst (xs ++ [.ref u]))) p (addR rs (k, t)) ∧ ∀ r ∈ addR (runR (its.take i)) (k, 1), 1 ≤ r.2 := by
        intro u nn e
        refine ⟨_, rfl, same_grow np (sm.trans (same_upd nn)), ⟨_, upd_same, ?_⟩, posN⟩
        rw [e]
        exact Paired.app (prs_grow (same_upd nn _ _ hx) (prs_same (same_upd nn) hp)) (.cons (RunV.grow (r := (k, t)) (same_upd nn _ _ hx) ⟨u, rfl, upd_same⟩) .nil)
      rcases List.eq_nil_or_concat rs with e0 | ⟨R0, l, e0⟩
      · subst e0
        cases hp
        refine ⟨_, rfl, Nat.zero_le _, fun e ne => ?_⟩
        have se : Same H1 (upd H1 e (.lst [])) := same_upd ne
        have sm1 := sm.trans se
        have hx1 := se _ _ hx
        have app := fun u (nn : (upd H1 e (.lst [])) u = none) => app u (se.free nn)
        refine ⟨.list [], .list [], .lst (.of hx1) .nil, .lst (.of upd_same) .nil, shaped_nil, shaped_nil, _, rfl, iteN rfl (iteF ?_)⟩
        refine ⟨_, rfl, .inl ⟨rfl, _, SqL.of hx1⟩, _, rfl, _, rfl, (by show 2 ≤ sizeLine; decide), fun u nn => ⟨p, _, _, rfl, rfl, same_upd nn _ _ hx1, (by show 0 < sizeLine; decide), ?_⟩⟩
        refine ⟨_, rfl, same_grow np (sm1.trans (same_upd nn)), ⟨_, upd_same, .cons (RunV.grow (r := (k, t)) (same_upd nn _ _ hx1) ⟨u, rfl, upd_same⟩) .nil⟩, posN⟩
      · rw [List.concat_eq_append] at e0
        subst e0
        obtain ⟨ys0, y, rfl, hy0, ⟨tl, rfl, htl⟩⟩ := paired_snoc R0 l hp
        have exl : atI (ys0 ++ [V.ref tl]) (-1) = some (.ref tl) := atI_last _ _
        refine ⟨_, rfl, Nat.zero_le _, fun e ne => ?_⟩
        have se : Same H1 (upd H1 e (.lst [])) := same_upd ne
        refine ⟨.list ((R0 ++ [l]).map dRun), .list [], .lst (.of (se _ _ hx)) (dp_all (prs_same se hp)), .lst (.of upd_same) .nil, shaped_runs okR, shaped_nil, _, rfl, ?_⟩
        rw [eqv_nil]
        have sm1 := sm.trans se
        have hx1 := se _ _ hx
        have hp1 := prs_same se hp
        have hy1 := prs_same se hy0
        have htl1 := se _ _ htl
        clear app hx hp hy0 htl sm
        generalize upd H1 e (.lst []) = H2 at *
        refine iteP (by cases R0 <;> rfl) ⟨_, rfl, 1, rfl, p, _, -1, _, rfl, rfl, .of hx1, exl, tl, _, 0, _, rfl, rfl, .of htl1, at0, _, rfl, rfl, _, rfl, ite2 (fun e1 => ?_) (fun e1 => ?_)⟩
        · have e1 : l.1 = k := V.str.inj (of_decide_eq_true e1)
          have er : addR (R0 ++ [l]) (k, t) = R0 ++ [(k, l.2 + t)] := addR_more R0 l (k, t) e1
          refine ⟨_, rfl, _, rfl, 1, rfl, p, _, -1, _, rfl, rfl, .of hx1, exl, tl, _, 1, _, rfl, rfl, .of htl1, at1, _, rfl, _, _, rfl, rfl, (by show 2 ≤ sizeLine; decide), fun u nn => ⟨_, rfl, 1, rfl, p, _, -1, ys0.length, rfl, rfl, same_upd nn _ _ hx1, ?_, ?_⟩⟩
          · rw [List.length_append]
            exact ixN_last
          · rw [set_last]
            refine ⟨_, rfl, same_grow np (sm1.trans (same_upd nn)), ⟨_, upd_same, ?_⟩, posN⟩
            rw [er]
            exact Paired.app (prs_grow (same_upd nn _ _ hx1) (prs_same (same_upd nn) hy1)) (.cons (RunV.grow (r := (k, l.2 + t)) (same_upd nn _ _ hx1) ⟨u, rfl, upd_same⟩) .nil)
        · have e1 : ¬ l.1 = k := fun z => e1 (decide_eq_true (by rw [z]))
          have er : addR (R0 ++ [l]) (k, t) = (R0 ++ [l]) ++ [(k, t)] := addR_new (r := (k, t)) fun y hy => by
            rw [List.getLast?_concat] at hy
            cases hy
            exact e1
          refine ⟨_, rfl, .inl ⟨rfl, _, SqL.of hx1⟩, _, rfl, _, rfl, (by show 2 ≤ sizeLine; decide), fun u nn => ⟨p, _, _, rfl, rfl, same_upd nn _ _ hx1, small (by omega), ?_⟩⟩
          refine ⟨_, rfl, same_grow np (sm1.trans (same_upd nn)), ⟨_, upd_same, ?_⟩, posN⟩
          rw [er]
          exact Paired.app (prs_grow (same_upd nn _ _ hx1) (prs_same (same_upd nn) hp1)) (.cons (RunV.grow (r := (k, t)) (same_upd nn _ _ hx1) ⟨u, rfl, upd_same⟩) .nil)
    · obtain ⟨y3, rfl, sm, hR, _⟩ := hP
      rw [List.length_map, List.take_length] at hR
      exact ⟨_, rfl, q _ _ sm np hR⟩
end
end UP

set_option Elab.async false
set_option linter.all false
set_option maxRecDepth 100000
set_option maxHeartbeats 4000000
namespace UP
open PySem PySem.Spec PyProof.Rows L2
theorem paired_ofix {α β : Type} {F : α → β → Prop} : ∀ {xs : List α} {ys : List β}, xs.length = ys.length → (∀ (i : Nat) (x : α) (y : β), xs[i]? = some x → ys[i]? = some y → F x y) → Paired F xs ys
  | [], [], _, _ => .nil
  | [], _ :: _, h, _ => by cases h
  | _ :: _, [], h, _ => by cases h
  | _ :: _, _ :: _, h, g => .cons (g 0 _ _ rfl rfl) (paired_ofix (Nat.succ.inj h) fun i x y hx hy => g (i + 1) x y hx hy)
section
variable {X : Cx}
/-- list(text) -/
theorem call_list_text (calm : X.calm = true) : CallR X (.type "list") (fun xs H Q => ∃ z : Str, xs = [.str z] ∧ z.cps.size ≤ sizeLine ∧ ∀ l, H l = none → Q (.ref l) (upd H l (.lst (z.cps.toList.map fun c => V.str ⟨#[c]⟩)))) := by
  intro pins s σ H xs us Q I r h
  obtain ⟨z, rfl, hz, q⟩ := h
  obtain ⟨u, rfl, rx⟩ := vals1 r
  obtain ⟨t, rfl⟩ := rx
  refine call_list_str (I.ok.hd calm) z t (hn := hz) fun h' tk acc c hk hS hacc => ?_
  refine ⟨.ref s.heap.objs.size, _, I.laid (t' := tk) hk (Nat.le_refl _) (show ObjOk X.prog X.w _ h' _ (.lst _) from ⟨by rw [List.length_map]; exact hz, acc.toList, c, ?_, by rw [Array.toArray_toList]; exact hS⟩), rfl, q _ (I.hok.fresh (Nat.le_refl _))⟩
  have sz := hacc.1
  refine paired_ofix (by rw [List.length_map, Array.length_toList, Array.length_toList, sz]) fun i x y hx hy => ?_
  obtain ⟨c', u, hc, rfl⟩ := hacc.2 i y (by simpa using hy)
  rw [List.getElem?_map, Array.getElem?_toList, hc] at hx
  cases hx
  exact ⟨u, rfl⟩
end
end UP

set_option Elab.async false
set_option linter.all false
set_option maxRecDepth 100000
set_option maxHeartbeats 4000000
set_option pp.maxSteps 600
namespace UP
open PySem PySem.Spec PyProof.Rows L2 L2.DX
def az : Str := "abcdefghijklmnopqrstuvwxyz"
def azL : List Str := az.cps.toList.map fun c => ⟨#[c]⟩
def kd52 : List Str := azL ++ az.cps.toList.map fun c => ("z" : Str) ++ ⟨#[c]⟩
theorem kd52_ok : ∀ k ∈ kd52, KindOk k := by decide +kernel
theorem kd52_len : kd52.length = 52 := by decide +kernel
section
variable {P : Program} {w : World} {K : PySem.W.Frag} {mg : Str → Option Value} {base : Heap}
/-! _law_wide: slots 0:spring 1:letters 2:kinds 3:found 4:k 5:kind 6:count 7:letter -/
abbrev s_law_wide : Stmt := topS 35
theorem sc_law_wide : FnScope ["spring", "letters", "kinds", "found", "k", "kind", "count", "letter"] ["spring"] (defScope s_law_wide) := ⟨rfl, rfl, rfl, by decide +kernel, rfl, by decide +kernel, by decide +kernel⟩
def sp_law_wide : Sp := fun vs H Q _ => ∃ (sp : Addr), vs = [.ref sp] ∧ Spr H sp ∧ ∀ H' p rs, But sp H H' → Spr H' sp → H p = none → Runs H' p rs → SeqOk rs → (∀ r ∈ rs, r.2 ≤ 9 ∧ r.1 ∈ kd52) → Q (.ref p) H'
theorem ok_law_wide (D : Df K mg "_law_wide" s_law_wide) (T : Tx mg) (G_law_draw : Has P w K mg base 1 "_law_draw" ["spring", "many"] sp_law_draw) : Has P w K mg base 2 "_law_wide" ["spring"] sp_law_wide := by
  refine has_of D sc_law_wide (fun _ _ _ _ _ _ us hl => match us, hl with | [_], _ => rfl) (fun vs H Q E h => ?_) (fun f cdv A outer s₀ H vs Q E hr h => ?_)
  · obtain ⟨_, rfl, _⟩ := h
    rfl
  · obtain ⟨sp, rfl, hz, q⟩ := h
    refine ⟨_, (pss_cons (ps_set (i := 1) sc_law_wide.nd rfl (by first | exact Or.inl rfl | exact Or.inr rfl) pe_str)
    (pss_cons (ps_set (i := 2) sc_law_wide.nd rfl (by first | exact Or.inl rfl | exact Or.inr rfl) (pe_op op_cat (pe_callTy (call_list_text (by rfl)) (by rfl) T.n_list (by decide +kernel) (pa_cons (pv 1) pa_nil)) (pe_lc (own := [("letter", 7)]) rfl sc_law_wide.nd (pi_str (pv 1)) (blkOk_by (N := ["spring", "letters", "kinds", "found", "k", "kind", "count", "letter"]) (sc := defScope s_law_wide) (by decide +kernel)) (fun _ _ _ _ _ => (pg_name (i := 7) sc_law_wide.nd rfl (by first | exact Or.inl rfl | exact Or.inr rfl))) (fun _ _ _ _ _ => pts_nil) (fun _ _ _ _ _ => (pe_op op_add_str pe_str (pv 7))))))
    (pss_cons (ps_set (i := 3) sc_law_wide.nd rfl (by first | exact Or.inl rfl | exact Or.inr rfl) (pe_lst pa_nil))
    (pss_cons (ps_for PassesOwn.never rfl (pi_range1 (by rfl) T.n_range (pa_cons (pe_callH G_law_draw (hr.mono (by omega)) (by rfl) (pa_cons (pv 0) (pa_cons pe_int pa_nil))) pa_nil)) (pg_name (i := 4) sc_law_wide.nd rfl (by first | exact Or.inl rfl | exact Or.inr rfl))
      (pss_cons (ps_par (i := 5) (j := 6) (by rfl) sc_law_wide.nd rfl rfl (by decide) rfl rfl (pa_cons (pe_ix ix_list (pv 2) (pe_callH G_law_draw (hr.mono (by omega)) (by rfl) (pa_cons (pv 0) (pa_cons pe_int pa_nil))) (fun _ _ => rfl)) (pa_cons (pe_op op_add pe_int (pe_callH G_law_draw (hr.mono (by omega)) (by rfl) (pa_cons (pv 0) (pa_cons pe_int pa_nil)))) pa_nil)) (by rfl))
    (pss_one (ps_if (PW.pt (pw_or (pt_cmpR (op_eqD hr.units) (pv 3) (pe_lst pa_nil) (nomark _)) (pw_or1 (pt_cmpR op_ne (pe_ix ix_tup (pe_ix ix_list (pv 3) (pe_un un_neg pe_int) (fun _ _ => rfl)) pe_int (fun _ _ => rfl)) (pv 5) (nomark _))))) (pss_one (ps_expr (pe_bm PySem.F.plainAttrs_list PySem.F.slot_list_append PySem.F.type_list_append mt_append (pv 3) (pa_cons (pe_tup (pa_cons (pv 5) (pa_cons (pv 6) pa_nil))) pa_nil)))) pss_nil))))
    (pss_one (ps_ret (pv 3))))))), ?_⟩
    refine ⟨_, rfl, _, rfl, by decide +kernel, fun l nl => ?_⟩
    have sl := same_upd (o := .lst (azL.map V.str)) nl
    have e1 : (("abcdefghijklmnopqrstuvwxyz" : Str).cps.toList.map fun c => V.str ⟨#[c]⟩) = azL.map V.str := by decide +kernel
    rw [e1]
    have hl : (upd H l (.lst (azL.map V.str))) l = some (.lst (azL.map V.str)) := upd_same
    have z1 := hz.same sl
    have b1 : But sp H (upd H l (.lst (azL.map V.str))) := sb sl
    generalize upd H l (.lst (azL.map V.str)) = H1 at *
    refine ⟨_, rfl, az, rfl, fun L nL => lc_gen (n := az.cps.size) (fun i H' => Same H1 H' ∧ H' L = some (.lst ((az.cps.toList.take i).map fun c => V.str (("z" : Str) ++ ⟨#[c]⟩)))) ⟨same_upd nL, upd_same⟩ (fun i H' hi _ => hi) (fun H' _ => Nat.le_refl _) (fun i x H2 H3 hi p y => ?_) (fun H2 p => ?_)⟩
    · obtain ⟨rfl, c, ec, rfl⟩ := y
      obtain ⟨sm, hL⟩ := p
      have ec' : az.cps.toList[i]? = some c := by
        rw [Array.getElem?_toList]
        exact ec
      have hi : i < 26 := hi
      refine ⟨rfl, yesT ⟨_, rfl, _, _, rfl, rfl, smallE (by show 1 + 1 ≤ _; decide), _, hL, ?_, same_grow nL sm, ?_⟩⟩
      · rw [List.length_map, List.length_take]
        exact small (by omega)
      · rw [upd_same, take_snoc ec', List.map_append]
        rfl
    obtain ⟨s2, hL⟩ := p
    rw [List.take_of_length_le (by rw [Array.length_toList]; exact Nat.le_refl _)] at hL
    have hl2 := s2 _ _ hl
    refine ⟨l, L, _, _, rfl, rfl, hl2, hL, by decide +kernel, fun kp nkp => ?_⟩
    have e2 : azL.map V.str ++ (az.cps.toList.map fun c => V.str (("z" : Str) ++ ⟨#[c]⟩)) = kd52.map V.str := by decide +kernel
    rw [e2]
    have s3 := s2.trans (same_upd (o := .lst (kd52.map V.str)) nkp)
    have hkp : (upd H2 kp (.lst (kd52.map V.str))) kp = some (.lst (kd52.map V.str)) := upd_same
    have z3 := z1.same s3
    have b3 : But sp H (upd H2 kp (.lst (kd52.map V.str))) := b1.trans (sb s3)
    have nks : kp ≠ sp := Spr.ne (z1.same s2) nkp
    have nkpH : H kp = none := b1.free z1 (s2.free nkp)
    clear hl hl2 hL sl s2 b1 z1
    generalize upd H2 kp (.lst (kd52.map V.str)) = H4 at *
    refine ⟨Nat.zero_le _, fun p np => ?_⟩
    have npH : H p = none := b3.free z3 np
    have nps : p ≠ sp := Spr.ne z3 np
    have npk : p ≠ kp := fun e => by rw [e, hkp] at np; cases np
    refine ⟨_, rfl, sp, 401, rfl, z3.same (same_upd np), by decide, by decide, fun H5 r5 b5 z5 r50 r51 => ?_⟩
    refine ⟨r5, rfl, by omega, by omega, for_range (lo := 0) (n := r5.toNat) (fun i σ H' => ∃ y4 y5 y6 y7 rs, σ = [some (.ref sp), some (.str az), some (.ref kp), some (.ref p), y4, y5, y6, y7] ∧ But sp H H' ∧ Spr H' sp ∧ H' kp = some (.lst (kd52.map V.str)) ∧ Runs H' p rs ∧ rs.length ≤ i ∧ (∀ r ∈ rs, RunOk r ∧ r.2 ≤ 9 ∧ r.1 ∈ kd52) ∧ Alt rs)
      ⟨none, none, none, none, [], rfl, (b3.trans (sb (same_upd np))).trans b5, z5, b5 _ _ nks (same_upd np _ _ hkp), ⟨[], b5 _ _ nps upd_same, .nil⟩, Nat.zero_le _, (fun r h => by cases h), (fun i x y h => by simp at h)⟩ (fun i σ H6 hi hP => ?_) (fun σ H6 hP => ?_)⟩
    · obtain ⟨y4, y5, y6, y7, rs, rfl, b6, z6, hk6, hR, lr, okr, alt⟩ := hP
      refine ⟨_, rfl, _, rfl, sp, 52, rfl, z6, by decide, by decide, fun H7 r7 b7 z7 r70 r71 => ?_⟩
      have lt : r7.toNat < kd52.length := by rw [kd52_len]; omega
      have hk7 : H7 kp = some (.lst (kd52.map V.str)) := b7 _ _ nks hk6
      have ek : (kd52.map V.str)[r7.toNat]? = some (.str kd52[r7.toNat]) := by
        rw [List.getElem?_map, List.getElem?_eq_getElem lt]
        rfl
      have km : kd52[r7.toNat] ∈ kd52 := List.getElem_mem lt
      have kk : KindOk kd52[r7.toNat] := kd52_ok _ km
      generalize kd52[r7.toNat] = kd at ek kk km
      refine ⟨kp, _, r7, _, rfl, rfl, .of hk7, atI_of r70 ek, ?_⟩
      refine ⟨_, rfl, sp, 9, rfl, z7, by decide, by decide, fun H8 r8 b8 z8 r80 r81 => ⟨_, _, rfl, rfl, _, _, rfl, ?_⟩⟩
      have B8 := b6.trans (b7.trans b8)
      have hk8 : H8 kp = some (.lst (kd52.map V.str)) := b8 _ _ nks hk7
      have hR8 : Runs H8 p rs := (hR.but z6 b7).but z7 b8
      have okR : ∀ r ∈ rs, KindOk r.1 := fun r h => (okr r h).1.1
      clear b7 b8 hk7 hR hk6 b6 z6 z7
      obtain ⟨xs, hx, hpr⟩ := hR8
      have lx : xs.length = rs.length := Paired.len hpr
      dsimp only
      refine if_by (fun b H9 => Same H8 H9 ∧ (b = true → ∀ y, rs[rs.length - 1]? = some y → y.1 ≠ kd)) (fun Q' k => ?_) (fun H9 hq => ?_) (fun H9 hq => ?_)
      · refine ⟨_, rfl, Nat.zero_le _, fun e ne => ?_⟩
        have se : Same H8 (upd H8 e (.lst [])) := same_upd ne
        refine ⟨.list (rs.map dRun), .list [], .lst (.of (se _ _ hx)) (dp_all (prs_same se hpr)), .lst (.of upd_same) .nil, shaped_runs okR, shaped_nil, _, rfl, ?_⟩
        rw [eqv_nil]
        cases hrs : rs with
        | nil => exact iteP rfl (k _ _ ⟨se, fun _ y hy => by rw [hrs] at hy; cases hy⟩)
        | cons r0 t0 =>
          refine iteN rfl ?_
          have hlt : rs.length - 1 < rs.length := by
            have : 0 < rs.length := by rw [hrs]; exact Nat.succ_pos _
            omega
          obtain ⟨x, ex, hxv⟩ := Paired.at' hpr (List.getElem?_eq_getElem hlt)
          obtain ⟨tt, rfl, htt⟩ := RunV.same se hxv
          have exl : atI xs (-1) = some (.ref tt) := by
            have h1 : xs ≠ [] := fun z => by rw [z] at lx; rw [hrs] at lx; cases lx
            have h2 : xs = xs.dropLast ++ [xs.getLast h1] := (List.dropLast_concat_getLast h1).symm
            have h3 : xs.getLast h1 = .ref tt := by
              have := List.getLast?_eq_getElem? (l := xs)
              rw [lx, ex, List.getLast?_eq_some_getLast h1] at this
              exact Option.some.inj this
            rw [h2, h3]
            exact atI_last _ _
          refine ⟨_, rfl, 1, rfl, p, xs, -1, _, rfl, rfl, .of (se _ _ hx), exl, tt, _, 0, _, rfl, rfl, .of htt, at0, _, rfl, rfl, _, rfl, ?_⟩
          refine k _ _ ⟨se, fun hb y hy => ?_⟩
          rw [List.getElem?_eq_getElem hlt] at hy
          cases hy
          intro z
          rw [z] at hb
          simp at hb
      · obtain ⟨s9, ha⟩ := hq
        refine ⟨_, rfl, .inl ⟨rfl, _, SqL.of (s9 _ _ hx)⟩, _, rfl, _, rfl, (by show 2 ≤ sizeLine; decide), fun n nn => ⟨p, _, _, rfl, rfl, same_upd nn _ _ (s9 _ _ hx), small (by omega), ?_⟩⟩
        have sn := s9.trans (same_upd (o := .tup [.str kd, .int (1 + r8)]) nn)
        refine ⟨_, _, _, _, rs ++ [(kd, 1 + r8)], rfl, ?_, ?_, ?_, ⟨_, upd_same, Paired.app (prs_grow (sn _ _ hx) (prs_same sn hpr)) (.cons (RunV.grow (sn _ _ hx) ⟨n, rfl, upd_same⟩) .nil)⟩, ?_, ?_, alt_snoc alt (ha rfl)⟩
        · intro b o nb eb
          rw [upd_ne (ne_of_none eb npH)]
          exact sn b o (B8 b o nb eb)
        · obtain ⟨d, s, c, hs, rest⟩ := z8.same sn
          refine ⟨d, s, c, ?_, rest⟩
          rw [upd_ne nps.symm]
          exact hs
        · rw [upd_ne npk.symm]
          exact sn _ _ hk8
        · rw [List.length_append]
          show rs.length + 1 ≤ i + 1
          omega
        · intro r hr
          rcases List.mem_append.mp hr with h | h
          · exact okr r h
          · rw [List.mem_singleton.mp h]
            exact ⟨⟨kk, by show 1 ≤ 1 + r8; omega, by show 1 + r8 ≤ _; omega⟩, by show 1 + r8 ≤ 9; omega, km⟩
      · obtain ⟨s9, _⟩ := hq
        exact ⟨_, _, _, _, rs, rfl, B8.trans (sb s9), z8.same s9, s9 _ _ hk8, ⟨xs, s9 _ _ hx, prs_same s9 hpr⟩, by omega, okr, alt⟩
    · obtain ⟨y4, y5, y6, y7, rs, rfl, b6, z6, hk6, hR, lr, okr, alt⟩ := hP
      exact ⟨_, rfl, q _ _ _ b6 z6 npH hR ⟨by omega, fun r hr => (okr r hr).1, alt⟩ fun r hr => (okr r hr).2⟩
end
end UP

set_option Elab.async false
set_option linter.all false
set_option maxRecDepth 100000
set_option maxHeartbeats 4000000
set_option pp.maxSteps 900
namespace UP
open PySem PySem.Spec PyProof.Rows L2 L2.DX
theorem dt_runsW {H : Hp} {n : Nat} : ∀ {xs : List V} {rs : List Run}, Paired (RunV H) xs rs → Paired (Dt H (n + 1)) xs (rs.map dRun)
  | _, _, .nil => .nil
  | _, _, .cons (l₂ := t) h p => .cons (dt_st (st := some _) h) (dt_runsW p)
theorem dt_seqW {H : Hp} {p : Addr} {rs : List Run} {n : Nat} (h : Runs H p rs) (l : rs.length ≤ 1000) : Dt H (n + 2) (.ref p) (.list (rs.map dRun)) := by
  obtain ⟨xs, hx, hp⟩ := h
  exact .inr (.inl ⟨p, xs, _, rfl, hx, rfl, dt_runsW hp, by rw [List.length_map]; omega⟩)
theorem dtq {H : Hp} {p : Addr} {rs : List Run} (h : Runs H p rs) (l : rs.length ≤ 3600) : Dt H 3 (.ref p) (.list (rs.map dRun)) := by
  obtain ⟨xs, hx, hp⟩ := h
  exact .inr (.inl ⟨p, xs, _, rfl, hx, rfl, dt_runsW hp, by rw [List.length_map]; omega⟩)
theorem dt_intW {H : Hp} {n : Nat} (i : Int) : Dt H n (.int i) (.int i) := by
  cases n with
  | zero => exact .inr (.inr (.inl ⟨i, rfl, rfl⟩))
  | succ n => exact .inl (.inr (.inr (.inl ⟨i, rfl, rfl⟩)))
theorem seq_sc {t : Int} (ht : 1 ≤ t) {rs : List Run} (ok : SeqOk rs) (b : ∀ r ∈ rs, r.2 * t ≤ 1000000000000000000000000000000) : SeqOk (scR t rs) := by
  refine ⟨by unfold scR; rw [List.length_map]; exact ok.1, fun r hr => ?_, fun i x y hx hy => ?_⟩
  · obtain ⟨x, hx, rfl⟩ := List.mem_map.mp hr
    have h1 := ok.2.1 x hx
    have h2 := b x hx
    refine ⟨h1.1, ?_, h2⟩
    have := Int.mul_le_mul h1.2.1 ht (by decide) (by have := h1.2.1; omega)
    rw [Int.one_mul] at this
    exact this
  · unfold scR at hx hy
    rw [List.getElem?_map] at hx hy
    obtain ⟨x0, ex, rfl⟩ := Option.map_eq_some_iff.mp hx
    obtain ⟨y0, ey, rfl⟩ := Option.map_eq_some_iff.mp hy
    exact ok.2.2 i x0 y0 ex ey
/-- a part of a multiplied sequence, by its items -/
theorem part_sc {t : Int} (ht : 1 ≤ t) {rs : List Run} (ok : SeqOk rs) {s l : Int} (s0 : 0 ≤ s) (l0 : 0 ≤ l) : cutR (s * t) (s * t + l * t) 0 (scR t rs) = scR t (runR (((itR rs).take (s + l).toNat).drop s.toNat)) := by
  have e := cut_sc (s := s) (e := s + l) (t := t) (by omega) rs 0
  rw [Int.zero_mul, Int.add_mul] at e
  have e2 := cut_its (s := s) (e := s + l) rs 0 (fun r hr => (ok.2.1 r hr).2.1)
  rw [Int.sub_zero, Int.sub_zero] at e2
  rw [e, ← e2, run_it (seq_cut ok).2.2 cutR_pos]
theorem nodup_sub : ∀ (l B : List Str), l.Nodup → (∀ x ∈ l, x ∈ B) → l.length ≤ B.length
  | [], _, _, _ => Nat.zero_le _
  | x :: l, B, nd, sub => by
    obtain ⟨n1, n2⟩ := List.nodup_cons.mp nd
    have hx := sub x List.mem_cons_self
    have h1 := nodup_sub l (B.erase x) n2 fun y hy => (List.mem_erase_of_ne (fun e => n1 (by rw [← e]; exact hy))).mpr (sub y (List.mem_cons_of_mem _ hy))
    have h2 := List.length_erase_of_mem hx
    have h3 := List.length_pos_of_mem hx
    rw [List.length_cons]
    omega
theorem it_mem {rs : List Run} {k : Str} (h : k ∈ itR rs) : k ∈ rs.map (·.1) := by
  obtain ⟨r, hr, e⟩ := List.mem_flatMap.mp h
  exact List.mem_map.mpr ⟨r, hr, (List.eq_of_mem_replicate e).symm⟩
theorem set_few {rs : List Run} {B : List Str} (h : ∀ r ∈ rs, r.1 ∈ B) : (setS (itR rs)).length ≤ B.length :=
  nodup_sub _ B (setS_nodup _) fun x hx => by
    obtain ⟨r, hr, e⟩ := List.mem_map.mp (it_mem (setS_mem.mp hx))
    exact e ▸ h r hr
theorem pick3W (r : Int) (h0 : 0 ≤ r) (h1 : r < 3) (a b c : Int) (F : Int → Prop) (fa : F a) (fb : F b) (fc : F c) : ∃ g : Int, atI [V.int a, V.int b, V.int c] r = some (.int g) ∧ F g := by
  rcases (show r = 0 ∨ r = 1 ∨ r = 2 by omega) with e | e | e
  · rw [e]; exact ⟨a, rfl, fa⟩
  · rw [e]; exact ⟨b, rfl, fb⟩
  · rw [e]; exact ⟨c, rfl, fc⟩
theorem cut_slice (l : List V) (s e : Int) (h0 : 0 ≤ s) (h1 : s ≤ e) (h2 : e ≤ l.length) : cutV l (some s) (some e) = (l.take e.toNat).drop s.toNat := by
  unfold cutV
  have g : ∀ (d : Nat) (m : Int), 0 ≤ m → m ≤ l.length → HT.sIx l.length d (some m) = m.toNat := fun d m m0 m1 => by
    show (if m < 0 then (m + (l.length : Int)).toNat else min m.toNat l.length) = _
    rw [if_neg (by omega)]
    omega
  show (l.drop (HT.sIx _ 0 (some s))).take (HT.sIx _ _ (some e) - HT.sIx _ 0 (some s)) = _
  rw [g 0 s h0 (by omega), g _ e (by omega) h2, List.drop_take]
theorem nat_place {r t d : Int} (r0 : 0 ≤ r) (t0 : 0 ≤ t) (d0 : 0 ≤ d) : (r * t + d).toNat = r.toNat * t.toNat + d.toNat := by
  obtain ⟨a, rfl⟩ := Int.eq_ofNat_of_zero_le r0
  obtain ⟨b, rfl⟩ := Int.eq_ofNat_of_zero_le t0
  obtain ⟨c, rfl⟩ := Int.eq_ofNat_of_zero_le d0
  rw [← Int.natCast_mul, ← Int.natCast_add]
  rfl
section
variable {P : Program} {w : World} {K : PySem.W.Frag} {mg : Str → Option Value} {base : Heap}
/-! _law_right: slots 0:spring 1:sequence 2:handed 3:times 4:items 5:counts 6:turn 7:place 8:start 9:size 10:again 11:kind 12:found -/
abbrev s_law_right : Stmt := topS 34
theorem sc_law_right : FnScope ["spring", "sequence", "handed", "times", "items", "counts", "turn", "place", "start", "size", "again", "kind", "found"] ["spring", "sequence", "handed", "times"] (defScope s_law_right) := ⟨rfl, rfl, rfl, by decide +kernel, rfl, by decide +kernel, by decide +kernel⟩
def sp_law_right : Sp := fun vs H Q _ => ∃ (sp : Addr) (sv hv : V) (rs : List Run) (t : Int), vs = [.ref sp, sv, hv, .int t] ∧ Spr H sp ∧ RunsG H sv rs ∧ RunsG H hv (scR t rs) ∧ SeqOk rs ∧ SeqOk (scR t rs) ∧ lenR rs ≤ 3600 ∧ (setS (itR rs)).length < 64 ∧ 1 ≤ t ∧ t ≤ 10000000000000000000000000000 ∧
  ∀ H', But sp H H' → Spr H' sp → Q (.bl true) H'
theorem ok_law_right (D : Df K mg "_law_right" s_law_right) (T : Tx mg) (G_law_draw : Has P w K mg base 1 "_law_draw" ["spring", "many"] sp_law_draw) (G_law_items : Has P w K mg base 1 "_law_items" ["sequence"] sp_law_items)
    (G_law_runs : Has P w K mg base 1 "_law_runs" ["items", "times"] sp_law_runs) (G_law_same : Has P w K mg base 5 "_law_same" ["found", "due"] (sp_law_same 3)) (G_total_length : Has P w K mg base 6 "total_length" ["sequence"] sp_total_length)
    (G_counts_of : Has P w K mg base 6 "counts_of" ["sequence"] sp_counts_of) (G_kind_at : Has P w K mg base 6 "kind_at" ["sequence", "position"] sp_kind_at) (G_part_of : Has P w K mg base 6 "part_of" ["sequence", "start", "length"] sp_part_of) :
    Has P w K mg base 7 "_law_right" ["spring", "sequence", "handed", "times"] sp_law_right := by
  refine has_of D sc_law_right (fun _ _ _ _ _ _ us hl => match us, hl with | [_, _, _, _], _ => rfl) (fun vs H Q E h => ?_) (fun f cdv A outer s H vs Q E hr h => ?_)
  · obtain ⟨_, _, _, _, _, rfl, _⟩ := h
    rfl
  · obtain ⟨sp, sv, hv, rs, t, rfl, z0, hS0, hV0, ok, okS, l36, s64, t1, t2, q⟩ := h
    have pos : ∀ r ∈ rs, 1 ≤ r.2 := fun r hr => (ok.2.1 r hr).2.1
    have posS : ∀ r ∈ scR t rs, 1 ≤ r.2 := fun r hr => (okS.2.1 r hr).2.1
    have lenq := len_it rs pos
    have l4 := ok.1
    have okk : ∀ k ∈ itR rs, KindOk k := it_kinds fun r hr => (ok.2.1 r hr).1
    have lsc : lenR (scR t rs) = lenR rs * t := len_sc rs
    refine ⟨_, (pss_cons (ps_set (i := 4) sc_law_right.nd rfl (by first | exact Or.inl rfl | exact Or.inr rfl) (pe_callH G_law_items (hr.mono (by omega)) (by rfl) (pa_cons (pv 1) pa_nil)))
    (pss_cons (ps_setLc (i := 5) (own := [("kind", 11)]) rfl sc_law_right.nd rfl rfl (sw_true rfl rfl rfl (by decide +kernel)) (pi_list (pe_callB (cr_sortSSw (w := w) rfl rfl) (by rfl) T.n_sorted (by decide +kernel) (pa_cons (pe_callTy (cr_setSw (K := K) (w := w) rfl rfl rfl) (by rfl) T.n_set (by decide +kernel) (pa_cons (pv 4) pa_nil)) pa_nil))) (blkOk_by (N := ["spring", "sequence", "handed", "times", "items", "counts", "turn", "place", "start", "size", "again", "kind", "found"]) (sc := defScope s_law_right) (by decide +kernel)) (fun _ _ _ _ _ => (pg_name (i := 11) sc_law_right.nd rfl (by first | exact Or.inl rfl | exact Or.inr rfl))) (fun _ _ _ _ _ => pts_nil) (fun _ _ _ _ _ => (pe_tup (pa_cons (pv 11) (pa_cons (pe_op op_mul (pe_bmK (K := K) rfl (pe_bm PySem.F.plainAttrs_list PySem.F.slot_list_count PySem.F.type_list_count (mt_countSK (K := K) rfl) (pv 4) (pa_cons (pv 11) pa_nil))) (pv 3)) pa_nil)))))
    (pss_cons (ps_if (pt_not (pt_val (pe_callH G_law_same (hr.mono (by omega)) (by rfl) (pa_cons (pe_lst (pa_cons (pe_callH G_total_length (hr.mono (by omega)) (by rfl) (pa_cons (pv 2) pa_nil)) (pa_cons (pe_callH G_counts_of (hr.mono (by omega)) (by rfl) (pa_cons (pv 2) pa_nil)) pa_nil))) (pa_cons (pe_lst (pa_cons (pe_op op_mul (pe_callB call_len_seq (by rfl) T.n_len (by decide +kernel) (pa_cons (pv 4) pa_nil)) (pv 3)) (pa_cons (pv 5) pa_nil))) pa_nil))))) (pss_one (ps_ret pe_bl)) pss_nil)
    (pss_cons (ps_for PassesOwn.never rfl (pi_range1 (by rfl) T.n_range (pa_cons (pe_callB (call_min2 rfl) (by rfl) T.n_min (by decide +kernel) (pa_cons pe_int (pa_cons (pe_callB call_len_seq (by rfl) T.n_len (by decide +kernel) (pa_cons (pv 4) pa_nil)) pa_nil))) pa_nil)) (pg_name (i := 6) sc_law_right.nd rfl (by first | exact Or.inl rfl | exact Or.inr rfl))
      (pss_cons (ps_set (i := 7) sc_law_right.nd rfl (by first | exact Or.inl rfl | exact Or.inr rfl) (pe_callH G_law_draw (hr.mono (by omega)) (by rfl) (pa_cons (pv 0) (pa_cons (pe_callB call_len_seq (by rfl) T.n_len (by decide +kernel) (pa_cons (pv 4) pa_nil)) pa_nil))))
    (pss_one (ps_if (pt_cmpR op_ne (pe_callH G_kind_at (hr.mono (by omega)) (by rfl) (pa_cons (pv 2) (pa_cons (pe_op op_add (pe_op op_mul (pv 7) (pv 3)) (pe_callH G_law_draw (hr.mono (by omega)) (by rfl) (pa_cons (pv 0) (pa_cons (pv 3) pa_nil)))) pa_nil))) (pe_ix ix_list (pv 4) (pv 7) (fun _ _ => rfl)) (nomark _)) (pss_one (ps_ret pe_bl)) pss_nil))))
    (pss_cons (ps_for PassesOwn.never rfl (pi_range1 (by rfl) T.n_range (pa_cons pe_int pa_nil)) (pg_name (i := 6) sc_law_right.nd rfl (by first | exact Or.inl rfl | exact Or.inr rfl))
      (pss_cons (ps_set (i := 8) sc_law_right.nd rfl (by first | exact Or.inl rfl | exact Or.inr rfl) (pe_callH G_law_draw (hr.mono (by omega)) (by rfl) (pa_cons (pv 0) (pa_cons (pe_op op_add (pe_callB call_len_seq (by rfl) T.n_len (by decide +kernel) (pa_cons (pv 4) pa_nil)) pe_int) pa_nil))))
    (pss_cons (ps_set (i := 9) sc_law_right.nd rfl (by first | exact Or.inl rfl | exact Or.inr rfl) (pe_ix ix_list (pe_lst (pa_cons (pe_op op_sub (pe_callB call_len_seq (by rfl) T.n_len (by decide +kernel) (pa_cons (pv 4) pa_nil)) (pv 8)) (pa_cons (pe_callH G_law_draw (hr.mono (by omega)) (by rfl) (pa_cons (pv 0) (pa_cons (pe_op op_add (pe_op op_sub (pe_callB call_len_seq (by rfl) T.n_len (by decide +kernel) (pa_cons (pv 4) pa_nil)) (pv 8)) pe_int) pa_nil))) (pa_cons pe_int pa_nil)))) (pe_callH G_law_draw (hr.mono (by omega)) (by rfl) (pa_cons (pv 0) (pa_cons pe_int pa_nil))) (fun _ _ => rfl)))
    (pss_one (ps_for PassesOwn.never rfl (pi_range1 (by rfl) T.n_range (pa_cons pe_int pa_nil)) (pg_name (i := 10) sc_law_right.nd rfl (by first | exact Or.inl rfl | exact Or.inr rfl))
      (pss_cons (ps_set (i := 12) sc_law_right.nd rfl (by first | exact Or.inl rfl | exact Or.inr rfl) (pe_callH G_part_of (hr.mono (by omega)) (by rfl) (pa_cons (pv 2) (pa_cons (pe_op op_mul (pv 8) (pv 3)) (pa_cons (pe_op op_mul (pv 9) (pv 3)) pa_nil)))))
    (pss_cons (ps_if (pt_not (pt_val (pe_callH G_law_same (hr.mono (by omega)) (by rfl) (pa_cons (pv 12) (pa_cons (pe_callH G_law_runs (hr.mono (by omega)) (by rfl) (pa_cons (pe_slice sl_list (pv 4) (po_some (pv 8)) (po_some (pe_op op_add (pv 8) (pv 9)))) (pa_cons (pv 3) pa_nil))) pa_nil))))) (pss_one (ps_ret pe_bl)) pss_nil)
    (pss_one (ps_expr (pe_bm PySem.F.plainAttrs_list PySem.F.slot_list_append PySem.F.type_list_append mt_append (pv 12) (pa_cons pe_non pa_nil)))))))))))
    (pss_one (ps_ret pe_bl))))))), ?_⟩
    refine ⟨_, rfl, sv, rs, rfl, hS0, pos, by omega, fun H1 p1 s1 n1 h1 => ?_⟩
    have bB1 : But sp H H1 := Same.but s1
    have z1 := z0.same s1
    have hV1 := hV0.same s1
    have p1s : p1 ≠ sp := Spr.ne z0 n1
    clear hS0 hV0 z0
    generalize hits : itR rs = its at *
    have lits : its.length ≤ 3600 := by omega
    -- counts
    refine ⟨_, rfl, p1, its, rfl, .of h1, (by show its.length + 1 < 4096; omega), fun ps nps => ⟨ps, _, rfl, upd_same, s64, fun ys py pm so npy => ?_⟩⟩
    have s2 : Same H1 (upd (upd H1 ps (StS w ps (setS its))) py (.lst (ys.map V.str))) := (same_upd nps).trans (same_upd npy)
    have hy2 : (upd (upd H1 ps (StS w ps (setS its))) py (.lst (ys.map V.str))) py = some (.lst (ys.map V.str)) := upd_same
    have h2 := s2 _ _ h1
    have z2 := z1.same s2
    have hV2 := hV1.same s2
    have bB2 : But sp H _ := bB1.trans (Same.but s2)
    generalize upd (upd H1 ps (StS w ps (setS its))) py (.lst (ys.map V.str)) = H2 at *
    have lys : ys.length < 64 := by rw [pm.length_eq]; exact s64
    refine ⟨py, rfl, ⟨_, .of hy2⟩, fun L nL => lc_list (K := K) (a := py) (xs := ys.map V.str) (fun i H' => Same H2 H' ∧ ∃ zs, H' L = some (.lst zs) ∧ Paired (RunV H') zs (cntL its t (ys.take i))) ⟨same_upd nL, [], upd_same, .nil⟩ (fun i H' _ p => .of (p.1 _ _ hy2)) (fun i x H3 ex hP => ?_) (fun H3 hP => ?_)⟩
    · obtain ⟨sm, zs, hL, hz⟩ := hP
      obtain ⟨k, ek, rfl⟩ := str_atW ex
      have hi : i < ys.length := (List.getElem?_eq_some_iff.mp ek).1
      have c0 : its.count k ≤ its.length := List.count_le_length ..
      have lz : zs.length = i := by
        have := Paired.len hz
        unfold cntL at this
        rw [List.length_map, List.length_take] at this
        omega
      refine ⟨rfl, yesT ⟨_, rfl, _, rfl, .inl ⟨rfl, _, .of (sm _ _ h2)⟩, _, rfl, p1, its, k, rfl, rfl, .of (sm _ _ h2), _, rfl, _, _, rfl, rfl, .inl ⟨by omega, by omega⟩, (by show 2 ≤ sizeLine; decide), fun n nn => ⟨_, same_upd nn _ _ hL, smallE (by omega), same_grow nL (sm.trans (same_upd nn)), _, upd_same, ?_⟩⟩⟩
      rw [take_snoc ek]
      unfold cntL at hz ⊢
      rw [List.map_append]
      exact Paired.app (prs_grow (same_upd nn _ _ hL) (prs_same (same_upd nn) hz)) (.cons (RunV.grow (r := (k, ((its.count k : Nat) : Int) * t)) (same_upd nn _ _ hL) ⟨n, rfl, upd_same⟩) .nil)
    obtain ⟨s3, zs, hL, hz⟩ := hP
    rw [List.length_map, List.take_length] at hz
    have h3 := s3 _ _ h2
    have z3 := z2.same s3
    have hV3 := hV2.same s3
    have bB3 : But sp H H3 := bB2.trans (Same.but s3)
    clear hV1 hV2 z1 z2 h1 h2 hy2 bB1 bB2 s1 s2 s3 n1 nL nps npy
    -- the same counts
    refine ⟨_, rfl, hv, _, rfl, hV3, okS, fun H4 s4 => ?_⟩
    refine ⟨_, rfl, hv, _, rfl, hV3.same s4, okS, fun H5 p5 out s5 n5 h5 ct5 so5 lo5 => ?_⟩
    have eo := cnt_eq t1 pos hits pm so ct5 so5
    subst eo
    refine ⟨(by show 2 ≤ sizeLine; decide), fun l6 n6 => ?_⟩
    have e6 := same_upd (o := .lst [.int (lenR (scR t rs)), .ref p5]) n6
    have hl6 : (upd H5 l6 (.lst [.int (lenR (scR t rs)), .ref p5])) l6 = some (.lst [.int (lenR (scR t rs)), .ref p5]) := upd_same
    have s36 := s4.trans (s5.trans e6)
    have h6 := s36 _ _ h3
    have h56 := h5.same e6
    have hc6 : Runs (upd H5 l6 (.lst [.int (lenR (scR t rs)), .ref p5])) L (cntL its t ys) := Runs.same s36 ⟨zs, hL, hz⟩
    have z6 := z3.same s36
    have hV6 := hV3.same s36
    have bB6 : But sp H _ := bB3.trans (Same.but s36)
    generalize upd H5 l6 (.lst [.int (lenR (scR t rs)), .ref p5]) = H6 at *
    refine ⟨_, rfl, p1, _, rfl, .inl (.of h6), _, rfl, _, _, rfl, rfl, .inl ⟨by rw [List.length_map]; omega, by rw [List.length_map]; omega⟩, _, rfl, (by show 2 ≤ sizeLine; decide), fun l7 n7 => ?_⟩
    rw [List.length_map]
    have elen : lenR (scR t rs) = (its.length : Int) * t := by rw [lsc, lenq]
    rw [elen] at hl6
    have e7 := same_upd (o := .lst [.int ((its.length : Int) * t), .ref L]) n7
    have lcs : (cntL its t ys).length ≤ 1000 := by
      unfold cntL
      rw [List.length_map]
      omega
    refine ⟨.ref l6, .ref l7, .list [.int ((its.length : Int) * t), .list ((cntL its t ys).map dRun)], rfl, .inr (.inl ⟨l6, _, _, rfl, e7 _ _ hl6, rfl, .cons (dt_intW _) (.cons (dt_seqW (h56.same e7) lcs) .nil), (by show 2 ≤ 100000; decide)⟩), .inr (.inl ⟨l7, _, _, rfl, upd_same, rfl, .cons (dt_intW _) (.cons (dt_seqW (hc6.same e7) lcs) .nil), (by show 2 ≤ 100000; decide)⟩), fun H8 s8 => ⟨true, rfl, iteF ?_⟩⟩
    have s68 := e7.trans s8
    have h8 := s68 _ _ h6
    have z8 := z6.same s68
    have hV8 := hV6.same s68
    have bB8 : But sp H H8 := bB6.trans (Same.but s68)
    clear h6 z6 hV6 bB6 h56 hc6 hl6 e7 n7 s68 s8 z3 h3 hV3 bB3 s36 e6 n6 hL hz s4 s5 h5 ct5 so5 lo5 n5
    -- kinds at places
    refine ⟨_, rfl, p1, _, rfl, .inl (.of h8), _, _, rfl, ?_⟩
    rw [List.length_map]
    refine ⟨_, rfl, by split <;> omega, by split <;> omega, for_range (lo := 0) (n := _) (fun i σ H' => ∃ y6 y7 y8 y9 y10 y12, σ = [some (.ref sp), some sv, some hv, some (.int t), some (.ref p1), some (.ref L), y6, y7, y8, y9, y10, none, y12] ∧ But sp H H' ∧ Spr H' sp ∧ H' p1 = some (.lst (its.map V.str)) ∧ RunsG H' hv (scR t rs)) ⟨none, none, none, none, none, none, rfl, bB8, z8, h8, hV8⟩ (fun i σ H9 hi hP => ?_) (fun σ H9 hP => ?_)⟩
    · obtain ⟨y6, y7, y8, y9, y10, y12, rfl, b9, z9, h9, hV9⟩ := hP
      have l0 : 1 ≤ its.length := by
        have hi : i < _ := hi
        split at hi <;> omega
      refine ⟨_, rfl, _, rfl, p1, _, rfl, .inl (.of h9), sp, _, rfl, z9, by rw [List.length_map]; omega, wide8 (by omega) (by rw [List.length_map]; omega), fun H10 r b10 z10 r0 r1 => ?_⟩
      rw [List.length_map] at r1
      refine ⟨_, rfl, _, rfl, _, rfl, _, _, rfl, rfl, .inl ⟨by omega, by omega⟩, _, rfl, _, rfl, sp, t, rfl, z10, t1, wide8 (by omega) (by omega), fun H11 d b11 z11 d0 d1 => ?_⟩
      have h11 := b11 _ _ p1s (b10 _ _ p1s h9)
      have hV11 := (hV9.but z9 b10).but z10 b11
      have lt : r.toNat < its.length := by omega
      have ek := List.getElem?_eq_getElem lt
      generalize its[r.toNat] = k at ek
      have m0 : 0 ≤ r * t := Int.mul_nonneg r0 (by omega)
      have m1 : (r + 1) * t ≤ (its.length : Int) * t := Int.mul_le_mul_of_nonneg_right (by omega) (by omega)
      rw [Int.add_mul, Int.one_mul] at m1
      refine ⟨_, _, rfl, rfl, hv, scR t rs, r * t + d, k, rfl, hV11, okS, by omega, by rw [elen]; omega, kind_pos posS (by omega) ?_, fun H12 s12 => ?_⟩
      · rw [it_sc t1 pos, hits, nat_place r0 (by omega) d0]
        exact rep_get ek (by omega)
      · refine ⟨_, rfl, _, rfl, p1, _, _, _, rfl, rfl, .of (s12 _ _ h11), atI_of r0 (by rw [List.getElem?_map, ek]; rfl), rfl, _, rfl, iteN (by rw [decide_eq_true rfl]; rfl) ?_⟩
        exact ⟨_, _, _, _, _, _, rfl, b9.trans (b10.trans (b11.trans (Same.but s12))), z11.same s12, s12 _ _ h11, hV11.same s12⟩
    · obtain ⟨y6, y7, y8, y9, y10, y12, rfl, b9, z9, h9, hV9⟩ := hP
      refine ⟨5, rfl, by decide, by decide, for_range (lo := 0) (n := _) (fun i σ H' => ∃ y6 y7 y8 y9 y10 y12, σ = [some (.ref sp), some sv, some hv, some (.int t), some (.ref p1), some (.ref L), y6, y7, y8, y9, y10, none, y12] ∧ But sp H H' ∧ Spr H' sp ∧ H' p1 = some (.lst (its.map V.str)) ∧ RunsG H' hv (scR t rs)) ⟨_, _, _, _, _, _, rfl, b9, z9, h9, hV9⟩ (fun i σ H10 hi hP => ?_) (fun σ H10 hP => ?_)⟩
      · obtain ⟨y6, y7, y8, y9, y10, y12, rfl, b10, z10, h10, hV10⟩ := hP
        clear b9 z9 h9 hV9
        refine ⟨_, rfl, _, rfl, p1, _, rfl, .inl (.of h10), _, _, rfl, rfl, sp, _, rfl, z10, by rw [List.length_map]; omega, wide8 (by omega) (by rw [List.length_map]; omega), fun H11 st b11 z11 st0 st1 => ?_⟩
        rw [List.length_map] at st1
        have h11 := b11 _ _ p1s h10
        have hV11 := hV10.but z10 b11
        refine ⟨_, rfl, p1, _, rfl, .inl (.of h11), _, rfl, _, _, rfl, rfl, ?_⟩
        refine ⟨_, rfl, _, rfl, p1, _, rfl, .inl (.of h11), _, rfl, _, _, rfl, rfl, _, _, rfl, rfl, sp, _, rfl, z11, by rw [List.length_map]; omega, wide8 (by rw [List.length_map]; omega) (by rw [List.length_map]; omega), fun H12 sz b12 z12 sz0 sz1 => ?_⟩
        rw [List.length_map] at sz1
        rw [List.length_map]
        refine ⟨(by show 3 ≤ sizeLine; decide), fun l nl => ?_⟩
        have hl := upd_same (H := H12) (a := l) (o := .lst [.int ((its.length : Int) - st), .int sz, .int 0])
        have lsp : l ≠ sp := Spr.ne z12 nl
        have e12 := same_upd (o := .lst [.int ((its.length : Int) - st), .int sz, .int 0]) nl
        have h12 := e12 _ _ (b12 _ _ p1s h11)
        have hV12 := (hV11.but z11 b12).same e12
        have z12' := z12.same e12
        have b12' : But sp H _ := b10.trans (b11.trans (b12.trans (Same.but e12)))
        generalize upd H12 l (.lst [.int ((its.length : Int) - st), .int sz, .int 0]) = H13 at *
        refine ⟨_, rfl, sp, 3, rfl, z12', by decide, by decide, fun H14 r b14 z14 r0 r1 => ?_⟩
        obtain ⟨g, eg, g0, g1⟩ := pick3W r r0 r1 ((its.length : Int) - st) sz 0 (fun g => 0 ≤ g ∧ st + g ≤ its.length) ⟨by omega, by omega⟩ ⟨by omega, by omega⟩ ⟨by omega, by omega⟩
        have h14 := b14 _ _ p1s h12
        have hV14 := hV12.but z12' b14
        have b14' := b12'.trans b14
        refine ⟨l, _, _, _, rfl, rfl, .of (b14 _ _ lsp hl), eg, ?_⟩
        clear h10 hV10 b10 z10 h11 hV11 b11 z11 h12 hV12 b12 z12 z12' b12' e12 hl nl b14 eg
        refine ⟨2, rfl, by decide, by decide, for_range (lo := 0) (n := _) (fun i2 σ H' => ∃ y10 y12, σ = [some (.ref sp), some sv, some hv, some (.int t), some (.ref p1), some (.ref L), some (.int (0 + (i : Int))), y7, some (.int st), some (.int g), y10, none, y12] ∧ But sp H H' ∧ Spr H' sp ∧ H' p1 = some (.lst (its.map V.str)) ∧ RunsG H' hv (scR t rs)) ⟨_, _, rfl, b14', z14, h14, hV14⟩ (fun i2 σ H15 hi2 hP => ?_) (fun σ H15 hP => ?_)⟩
        · obtain ⟨y10, y12, rfl, b15, z15, h15, hV15⟩ := hP
          clear h14 hV14 z14 b14'
          have m0 : 0 ≤ st * t := Int.mul_nonneg st0 (by omega)
          have m1 : 0 ≤ g * t := Int.mul_nonneg g0 (by omega)
          have m2 : (st + g) * t ≤ (its.length : Int) * t := Int.mul_le_mul_of_nonneg_right (by omega) (by omega)
          rw [Int.add_mul] at m2
          refine ⟨_, rfl, _, rfl, _, rfl, _, _, rfl, rfl, .inl ⟨by omega, by omega⟩, _, rfl, _, rfl, _, _, rfl, rfl, .inl ⟨by omega, by omega⟩, hv, scR t rs, st * t, g * t, rfl, hV15, okS, m0, m1, by rw [elen]; omega, fun H16 p16 s16 n16 h16 => ?_⟩
          rw [part_sc t1 ok st0 g0, hits] at h16
          have ecut := cut_slice (its.map V.str) st (st + g) st0 (by omega) (by rw [List.length_map]; omega)
          rw [← List.map_take, ← List.map_drop] at ecut
          have lpart : ((its.take (st + g).toNat).drop st.toNat).length ≤ 3600 := by
            rw [List.length_drop, List.length_take]
            omega
          have okp : ∀ k ∈ (its.take (st + g).toNat).drop st.toNat, KindOk k := fun k hk => okk k (List.mem_of_mem_take (List.mem_of_mem_drop hk))
          have lrun : (scR t (runR ((its.take (st + g).toNat).drop st.toNat))).length ≤ 3600 := by
            have := runR_len ((its.take (st + g).toNat).drop st.toNat)
            unfold scR
            rw [List.length_map]
            omega
          refine ⟨_, rfl, _, rfl, _, rfl, st, rfl, _, rfl, _, rfl, _, _, rfl, rfl, _, rfl, p1, _, rfl, .of (s16 _ _ h15), fun u nu => ?_⟩
          rw [ecut]
          have e17 := same_upd (o := .lst (((its.take (st + g).toNat).drop st.toNat).map V.str)) nu
          refine ⟨_, rfl, u, _, t, rfl, upd_same, by omega, okp, t1, t2, fun H18 p18 s18 n18 h18 => ?_⟩
          have h1618 := (h16.same e17).same s18
          refine ⟨.ref p16, .ref p18, _, rfl, dtq h1618 lrun, dtq h18 lrun, fun H19 s19 => ⟨true, rfl, iteF ?_⟩⟩
          obtain ⟨xs, hx, hxp⟩ := h1618.same s19
          have lxs : xs.length ≤ 3600 := by rw [Paired.len hxp]; exact lrun
          refine ⟨_, rfl, .inl ⟨rfl, _, SqL.of hx⟩, p16, _, _, rfl, rfl, hx, smallE (by omega), ?_⟩
          have sA : Same H15 (upd H19 p16 (.lst (xs ++ [.non]))) := same_grow n16 (s16.trans (e17.trans (s18.trans s19)))
          exact ⟨_, _, rfl, b15.trans (Same.but sA), z15.same sA, sA _ _ h15, hV15.same sA⟩
        · obtain ⟨y10, y12, rfl, b15, z15, h15, hV15⟩ := hP
          exact ⟨_, _, _, _, _, _, rfl, b15, z15, h15, hV15⟩
      · obtain ⟨y6, y7, y8, y9, y10, y12, rfl, b10, z10, h10, hV10⟩ := hP
        exact q _ b10 z10
end
end UP

set_option Elab.async false
set_option linter.all false
set_option maxRecDepth 100000
set_option maxHeartbeats 4000000
set_option pp.maxSteps 900
namespace UP
open PySem PySem.Spec PyProof.Rows L2
/-! ### runs as lists of their own -/
def LRun (H : Hp) (v : V) (r : Run) : Prop := ∃ t, v = .ref t ∧ H t = some (.lst [.str r.1, .int r.2])
theorem LRun.same {H H' : Hp} {v : V} {r : Run} (s : Same H H') (h : LRun H v r) : LRun H' v r := by
  obtain ⟨t, e, h⟩ := h
  exact ⟨t, e, s _ _ h⟩
theorem LRun.dress {H : Hp} {v : V} {r : Run} (h : LRun H v r) : RunG H v r := by
  obtain ⟨t, e, h⟩ := h
  exact ⟨t, e, .inl h⟩
theorem LRun.grow {H : Hp} {D : Addr} {acc acc' : List V} {v : V} {r : Run} (hD : H D = some (.lst acc)) (ha : acc ≠ [.str r.1, .int r.2]) (h : LRun H v r) : LRun (upd H D (.lst acc')) v r := by
  obtain ⟨t, e, h⟩ := h
  refine ⟨t, e, ?_⟩
  rw [upd_ne (ne_of h hD (fun q => ha (HO.lst.inj q).symm))]
  exact h
/-- one of the lists changed -/
theorem lrun_set {H : Hp} {t : Addr} {o : HO} : ∀ {xs : List V} {hs : List Run} {i : Nat} {r' : Run}, xs.Nodup → Paired (LRun H) xs hs → xs[i]? = some (.ref t) → o = .lst [.str r'.1, .int r'.2] → Paired (LRun (upd H t o)) xs (hs.set i r')
  | [], _, _, _, _, .nil, h, _ => by simp at h
  | x :: u, r :: hs, 0, r', nd, .cons h p, e, ho => by
    have e : x = .ref t := Option.some.inj e
    subst e
    have nd := List.nodup_cons.mp nd
    refine .cons ⟨t, rfl, by rw [upd_same, ho]⟩ ?_
    have keep : ∀ (u : List V) (hs : List Run), V.ref t ∉ u → Paired (LRun H) u hs → Paired (LRun (upd H t o)) u hs := by
      intro u hs nu hp
      induction hp with
      | nil => exact .nil
      | cons h _ ih =>
        obtain ⟨t', rfl, h'⟩ := h
        have ne : t' ≠ t := fun z => nu (by rw [z]; exact List.mem_cons_self ..)
        refine .cons ⟨t', rfl, by rw [upd_ne ne]; exact h'⟩ (ih fun z => nu (List.mem_cons_of_mem _ z))
    exact keep u hs nd.1 p
  | x :: u, r :: hs, i + 1, r', nd, .cons h p, e, ho => by
    have e : u[i]? = some (.ref t) := e
    have nd := List.nodup_cons.mp nd
    obtain ⟨t', rfl, h'⟩ := h
    have ne : t' ≠ t := fun z => nd.1 (by rw [z]; exact List.mem_of_getElem? e)
    exact .cons ⟨t', rfl, by rw [upd_ne ne]; exact h'⟩ (lrun_set nd.2 p e ho)
theorem alt_of {rs hs : List Run} (h : hs.map (·.1) = rs.map (·.1)) (a : Alt rs) : Alt hs := by
  intro i x y hx hy
  have l : hs.length = rs.length := by
    have := congrArg List.length h
    rw [List.length_map, List.length_map] at this
    exact this
  have ix : i < rs.length := by
    have := (List.getElem?_eq_some_iff.mp hx).1
    omega
  have iy : i + 1 < rs.length := by
    have := (List.getElem?_eq_some_iff.mp hy).1
    omega
  have e1 : some x.1 = some (rs[i]).1 := by
    have := congrArg (fun l : List Str => l[i]?) h
    simp only [List.getElem?_map, hx, List.getElem?_eq_getElem ix] at this
    exact this
  have e2 : some y.1 = some (rs[i + 1]).1 := by
    have := congrArg (fun l : List Str => l[i + 1]?) h
    simp only [List.getElem?_map, hy, List.getElem?_eq_getElem iy] at this
    exact this
  rw [Option.some.inj e1, Option.some.inj e2]
  exact a i _ _ (List.getElem?_eq_getElem ix) (List.getElem?_eq_getElem iy)
theorem map_set {hs : List Run} {i : Nat} {r : Run} {c : Int} (h : hs[i]? = some r) : (hs.set i (r.1, c)).map (·.1) = hs.map (·.1) := by
  rw [List.map_set]
  refine List.ext_getElem? fun j => ?_
  by_cases e : i = j
  · subst e
    have := (List.getElem?_eq_some_iff.mp h).1
    rw [List.getElem?_set_self (by rw [List.length_map]; exact this), List.getElem?_map, h]
    rfl
  · rw [List.getElem?_set_ne e]
theorem kinds_of {rs hs : List Run} (h : hs.map (·.1) = rs.map (·.1)) (k : ∀ r ∈ rs, KindOk r.1) : ∀ r ∈ hs, KindOk r.1 := by
  intro r hr
  have : r.1 ∈ rs.map (·.1) := by
    rw [← h]
    exact List.mem_map.mpr ⟨r, hr, rfl⟩
  obtain ⟨x, hx, e⟩ := List.mem_map.mp this
  rw [← e]
  exact k x hx
theorem cut_first (ys : List V) (k : Nat) : cutV ys none (some (k : Int)) = ys.take (min k ys.length) := by
  unfold cutV
  rw [HT.sIx_none, HT.sIx_nat]
  rfl
theorem len_bound {c : Int} : ∀ {rs : List Run}, (∀ r ∈ rs, 1 ≤ r.2 ∧ r.2 ≤ c) → 0 ≤ lenR rs ∧ lenR rs ≤ c * (rs.length : Int)
  | [], _ => by
    rw [lenR_nil, List.length_nil]
    exact ⟨Int.le_refl _, Int.le_of_eq (Int.mul_zero c).symm⟩
  | r :: t, k => by
    have h1 := k r (List.mem_cons_self ..)
    have h2 := len_bound fun x hx => k x (List.mem_cons_of_mem _ hx)
    rw [lenR_cons, List.length_cons, Int.natCast_add, Int.mul_add]
    have e : c * ((1 : Nat) : Int) = c := Int.mul_one c
    omega
theorem scR_one (rs : List Run) : scR 1 rs = rs := by
  unfold scR
  refine (List.map_congr_left fun r _ => ?_).trans (List.map_id _)
  show (r.1, r.2 * 1) = r
  rw [Int.mul_one]
theorem pow28 : (10 : Int) ^ ((28 : Int).toNat) = 10000000000000000000000000000 := by decide +kernel
theorem paired_rev {α β : Type} {F : α → β → Prop} : ∀ {xs : List α} {ys : List β}, Paired F xs ys → Paired F xs.reverse ys.reverse
  | _, _, .nil => .nil
  | _, _, .cons h t => by
    rw [List.reverse_cons, List.reverse_cons]
    exact Paired.app (paired_rev t) (.cons h .nil)
def thS : Str := "mlkjihgfedcba"
def thR : List Run := thS.cps.toList.map fun c => ((⟨#[c]⟩ : Str), (1 : Int))
theorem thR_all : thR.take thS.cps.size = thR := by decide +kernel
theorem thR_ok : SeqOk thR := by
  refine ⟨by decide +kernel, fun r hr => ?_, fun i x y hx hy => ?_⟩
  · have h1 : ∀ r ∈ thR, KindOk r.1 := by decide +kernel
    have h2 : ∀ r ∈ thR, r.2 = 1 := by decide +kernel
    exact ⟨h1 r hr, by rw [h2 r hr]; decide, by rw [h2 r hr]; decide⟩
  · have h1 : ∀ j : Fin 13, ∀ x y, thR[j.val]? = some x → thR[j.val + 1]? = some y → x.1 ≠ y.1 := by
      intro j x y hx hy
      match j, hx, hy with
      | ⟨0, _⟩, hx, hy | ⟨1, _⟩, hx, hy | ⟨2, _⟩, hx, hy | ⟨3, _⟩, hx, hy | ⟨4, _⟩, hx, hy | ⟨5, _⟩, hx, hy | ⟨6, _⟩, hx, hy | ⟨7, _⟩, hx, hy | ⟨8, _⟩, hx, hy | ⟨9, _⟩, hx, hy | ⟨10, _⟩, hx, hy | ⟨11, _⟩, hx, hy =>
        cases hx
        cases hy
        decide +kernel
      | ⟨12, _⟩, hx, hy => cases hy
    have hi : i < 13 := by
      have := (List.getElem?_eq_some_iff.mp hx).1
      have e : thR.length = 13 := by decide +kernel
      omega
    exact h1 ⟨i, hi⟩ x y hx hy
theorem thR_ct : CT thR.reverse (itR thR) := by
  have e1 : itR thR = thR.map (·.1) := by decide +kernel
  refine ⟨by decide +kernel, by decide +kernel, fun k => ?_, by decide +kernel⟩
  rw [e1, List.map_reverse, List.mem_reverse]
theorem thR_so : thR.reverse.Pairwise fun x y => UPS.lexS y x = false := by decide +kernel
def reR : List Run := [("a", 3), ("b", 1)]
def laR : List Run := [("a", (10 : Int) ^ ((30 : Int).toNat)), ("b", 1)]
theorem laR_ok : SeqOk laR := by
  refine ⟨by decide, fun r hr => ?_, fun i x y hx hy => ?_⟩
  · rcases List.mem_cons.mp hr with rfl | hr
    · exact ⟨by decide +kernel, by decide +kernel, by decide +kernel⟩
    · rw [List.mem_singleton.mp hr]
      exact ⟨by decide +kernel, by decide, by decide⟩
  · match i, hx, hy with
    | 0, hx, hy =>
      cases hx
      cases hy
      decide +kernel
    | 1, hx, hy => cases hy
    | n + 2, hx, hy => simp [laR] at hx
def delA (p : Addr) (H : Hp) : Hp := fun a => if a = p then none else H a
theorem lruns_but {H H' : Hp} {sp : Addr} (z : Spr H sp) (b : But sp H H') {xs : List V} {hs : List Run} (h : Paired (LRun H) xs hs) : Paired (LRun H') xs hs :=
  Paired.imp (fun _ r ⟨t, e, ht⟩ => ⟨t, e, b _ _ (fun z' => by
    obtain ⟨_, _, _, h1, _⟩ := z
    rw [← z', ht] at h1
    cases h1) ht⟩) h
section
variable {P : Program} {w : World} {K : PySem.W.Frag} {mg : Str → Option Value} {base : Heap}
/-! law: slots 0:script 1:spring 2:turn 3:wide 4:thirteen 5:sequence 6:times 7:handed 8:before 9:held 10:run 11:letter -/
abbrev s_law : Stmt := topS 36
theorem sc_law : FnScope ["script", "spring", "turn", "wide", "thirteen", "sequence", "times", "handed", "before", "held", "run", "letter"] ["script"] (defScope s_law) := ⟨rfl, rfl, rfl, by decide +kernel, rfl, by decide +kernel, by decide +kernel⟩
def sp_law (K : PySem.W.Frag) : Sp := fun vs H Q _ => ∃ (a : Addr) (ns : List Int), vs = [.ref a] ∧ SqL K H a (ns.map V.int) ∧ ns.length ≤ 63 ∧ ∀ H', Q (.bl true) H'
theorem fn_law {f : Addr} {fd : FuncData} (F : Fun K "law" "law" s_law f fd) (T : Tx mg)
    (G_law_spring : Has P w K mg base 1 "_law_spring" ["script"] (sp_law_spring K)) (G_law_draw : Has P w K mg base 1 "_law_draw" ["spring", "many"] sp_law_draw)
    (G_law_sequence : Has P w K mg base 2 "_law_sequence" ["spring", "most", "longest"] sp_law_sequence)
    (G_law_scaled : Has P w K mg base 1 "_law_scaled" ["sequence", "times"] sp_law_scaled) (G_law_dressed : Has P w K mg base 4 "_law_dressed" ["spring", "value"] (sp_law_dressed 2))
    (G_law_right : Has P w K mg base 7 "_law_right" ["spring", "sequence", "handed", "times"] sp_law_right) (G_law_wide : Has P w K mg base 2 "_law_wide" ["spring"] sp_law_wide)
    (G_counts_of : Has P w K mg base 6 "counts_of" ["sequence"] sp_counts_of) (G_part_of : Has P w K mg base 6 "part_of" ["sequence", "start", "length"] sp_part_of) :
    FnC P w K mg base f fd ["script"] (sp_law K) := by
  refine fnC_of F sc_law (fun vs H Q E h => ?_) (fun cdv outer s H vs Q E hr h => ?_)
  · obtain ⟨_, _, rfl, _⟩ := h
    rfl
  · obtain ⟨a, ns, rfl, hS, l63, q⟩ := h
    refine ⟨_, (pss_cons (ps_set (i := 1) sc_law.nd rfl (by first | exact Or.inl rfl | exact Or.inr rfl) (pe_callH G_law_spring (hr.mono (by omega)) (by rfl) (pa_cons (pv 0) pa_nil)))
    (pss_cons (ps_for PassesOwn.never rfl (pi_range1 (by rfl) T.n_range (pa_cons (pe_op op_add pe_int (pe_callB (call_min2 rfl) (by rfl) T.n_min (by decide +kernel) (pa_cons (pe_callB call_len_seq (by rfl) T.n_len (by decide +kernel) (pa_cons (pv 0) pa_nil)) (pa_cons pe_int pa_nil)))) pa_nil)) (pg_name (i := 2) sc_law.nd rfl (by first | exact Or.inl rfl | exact Or.inr rfl))
      (pss_cons (ps_set (i := 5) sc_law.nd rfl (by first | exact Or.inl rfl | exact Or.inr rfl) (pe_callH G_law_sequence (hr.mono (by omega)) (by rfl) (pa_cons (pv 1) (pa_cons pe_int (pa_cons pe_int pa_nil)))))
    (pss_cons (ps_set (i := 6) sc_law.nd rfl (by first | exact Or.inl rfl | exact Or.inr rfl) (pe_ix ix_list (pe_lst (pa_cons pe_int (pa_cons (pe_op op_add pe_int (pe_callH G_law_draw (hr.mono (by omega)) (by rfl) (pa_cons (pv 1) (pa_cons (pe_op op_pow pe_int pe_int) pa_nil)))) pa_nil))) (pe_callH G_law_draw (hr.mono (by omega)) (by rfl) (pa_cons (pv 1) (pa_cons pe_int pa_nil))) (fun _ _ => rfl)))
    (pss_cons (ps_set (i := 7) sc_law.nd rfl (by first | exact Or.inl rfl | exact Or.inr rfl) (pe_callH G_law_dressed (hr.mono (by omega)) (by rfl) (pa_cons (pv 1) (pa_cons (pe_callH G_law_scaled (hr.mono (by omega)) (by rfl) (pa_cons (pv 5) (pa_cons (pv 6) pa_nil))) pa_nil))))
    (pss_cons (ps_set (i := 8) sc_law.nd rfl (by first | exact Or.inl rfl | exact Or.inr rfl) (pe_callB (call_reprD (by rfl) (room70 hr)) (by rfl) T.n_repr (by decide +kernel) (pa_cons (pv 7) pa_nil)))
    (pss_cons (ps_if (PW.pt (pw_or (pt_not (pt_val (pe_callH G_law_right (hr.mono (by omega)) (by rfl) (pa_cons (pv 1) (pa_cons (pv 5) (pa_cons (pv 7) (pa_cons (pv 6) pa_nil))))))) (pw_or1 (pt_cmpR op_ne (pe_callB (call_reprD (by rfl) (room70 hr)) (by rfl) T.n_repr (by decide +kernel) (pa_cons (pv 7) pa_nil)) (pv 8) (nomark _))))) (pss_one (ps_ret pe_bl)) pss_nil)
    (pss_cons (ps_setLc (i := 9) (own := [("run", 10)]) rfl sc_law.nd rfl rfl (sw_true rfl rfl rfl (by decide +kernel)) (pi_list (pv 5)) (blkOk_by (N := ["script", "spring", "turn", "wide", "thirteen", "sequence", "times", "handed", "before", "held", "run", "letter"]) (sc := defScope s_law) (by decide +kernel)) (fun _ _ _ _ _ => (pg_name (i := 10) sc_law.nd rfl (by first | exact Or.inl rfl | exact Or.inr rfl))) (fun _ _ _ _ _ => pts_nil) (fun _ _ _ _ _ => (pe_callTy (call_list_ofK (K := K) rfl) (by rfl) T.n_list (by decide +kernel) (pa_cons (pv 10) pa_nil))))
    (pss_one (ps_for PassesOwn.never rfl (pi_list (pe_slice sl_list (pv 9) po_none (po_some pe_int))) (pg_name (i := 10) sc_law.nd rfl (by first | exact Or.inl rfl | exact Or.inr rfl))
      (pss_cons (ps_asg (pe_op op_add (pe_ix ix_list (pv 10) pe_int (fun _ _ => rfl)) pe_int) (pg_sub (pv 10) pe_int set_list))
    (pss_one (ps_if (pt_not (pt_val (pe_callH G_law_right (hr.mono (by omega)) (by rfl) (pa_cons (pv 1) (pa_cons (pv 9) (pa_cons (pv 9) (pa_cons pe_int pa_nil))))))) (pss_one (ps_ret pe_bl)) pss_nil))))))))))))
    (pss_cons (ps_set (i := 3) sc_law.nd rfl (by first | exact Or.inl rfl | exact Or.inr rfl) (pe_callH G_law_wide (hr.mono (by omega)) (by rfl) (pa_cons (pv 1) pa_nil)))
    (pss_cons (ps_setLc (i := 4) (own := [("letter", 11)]) rfl sc_law.nd rfl rfl (sw_true rfl rfl rfl (by decide +kernel)) (pi_str pe_str) (blkOk_by (N := ["script", "spring", "turn", "wide", "thirteen", "sequence", "times", "handed", "before", "held", "run", "letter"]) (sc := defScope s_law) (by decide +kernel)) (fun _ _ _ _ _ => (pg_name (i := 11) sc_law.nd rfl (by first | exact Or.inl rfl | exact Or.inr rfl))) (fun _ _ _ _ _ => pts_nil) (fun _ _ _ _ _ => (pe_tup (pa_cons (pv 11) (pa_cons pe_int pa_nil)))))
    (pss_cons (ps_if (PW.pt (pw_or (pt_not (pt_val (pe_callH G_law_right (hr.mono (by omega)) (by rfl) (pa_cons (pv 1) (pa_cons (pv 3) (pa_cons (pv 3) (pa_cons pe_int pa_nil))))))) (pw_or1 (pt_cmpR (op_neD hr.units) (pe_callH G_counts_of (hr.mono (by omega)) (by rfl) (pa_cons (pv 4) pa_nil)) (pe_revL (pv 4)) (nomark _))))) (pss_one (ps_ret pe_bl)) pss_nil)
    (pss_one (ps_ret (pe_cmpR (op_eqD hr.units) (pe_callH G_part_of (hr.mono (by omega)) (by rfl) (pa_cons (pe_lst (pa_cons (pe_tup (pa_cons pe_str (pa_cons (pe_op op_pow pe_int pe_int) pa_nil))) (pa_cons (pe_tup (pa_cons pe_str (pa_cons pe_int pa_nil))) pa_nil))) (pa_cons (pe_op op_sub (pe_op op_pow pe_int pe_int) pe_int) (pa_cons pe_int pa_nil)))) (pe_lst (pa_cons (pe_tup (pa_cons pe_str (pa_cons pe_int pa_nil))) (pa_cons (pe_tup (pa_cons pe_str (pa_cons pe_int pa_nil))) pa_nil))) (nomark _))))))))), ?_⟩
    refine ⟨_, rfl, a, ns, rfl, hS, l63, fun H1 sp s1 nsp z1 => ?_⟩
    refine ⟨_, rfl, a, _, rfl, .inl (s1.seq hS), _, _, rfl, _, _, rfl, rfl, _, rfl, ?_, ?_, for_range (lo := 0) (n := _) (fun i σ H' => ∃ y2 y5 y6 y7 y8 y9 y10, σ = [some (.ref a), some (.ref sp), y2, none, none, y5, y6, y7, y8, y9, y10, none] ∧ Spr H' sp)
      ⟨none, none, none, none, none, none, none, rfl, z1⟩ (fun i σ H2 hi hP => ?_) (fun σ H2 hP => ?_)⟩
    · rw [List.length_map]
      split <;> omega
    · rw [List.length_map]
      split <;> omega
    · obtain ⟨y2, y5, y6, y7, y8, y9, y10, rfl, z2⟩ := hP
      clear z1
      -- sequence
      refine ⟨_, rfl, sp, 8, 9, rfl, z2, by decide, by decide, by decide, by decide, fun H4 p rs b3 z4 np hR4 ok lm lg => ?_⟩
      have lr : rs.length ≤ 8 := by omega
      clear b3 z2 np lm
      have okr : ∀ r ∈ rs, KindOk r.1 ∧ 1 ≤ r.2 ∧ r.2 ≤ 1000 := fun r hr => ⟨(ok.2.1 r hr).1, (ok.2.1 r hr).2.1, by have := lg r hr; omega⟩
      have pos : ∀ r ∈ rs, 1 ≤ r.2 := fun r hr => (okr r hr).2.1
      -- times
      refine ⟨_, rfl, _, _, rfl, rfl, ⟨by decide, by decide, by decide⟩, sp, _, rfl, z4, (by rw [pow28]; decide), (by rw [pow28]; exact wide8 (by decide) (by decide)), fun H5 r5 b5 z5 r50 r51 => ⟨_, _, rfl, rfl, (by show 2 ≤ sizeLine; decide), fun l nl => ?_⟩⟩
      refine ⟨_, rfl, sp, 2, rfl, z5.same (same_upd nl), by decide, by decide, fun H6 r6 b6 z6 r60 r61 => ?_⟩
      obtain ⟨t, et, ht⟩ := pick2 (x := 1) (y := 1 + r5) r60 r61
      refine ⟨l, _, r6, _, rfl, rfl, .of (b6 _ _ (Spr.ne z5 nl) upd_same), et, ?_⟩
      have t12 : 1 ≤ t ∧ t ≤ 10000000000000000000000000000 := by
        rw [pow28] at r51
        omega
      have hR6 : Runs H6 p rs := ((hR4.but z4 b5).same (same_upd nl)).but (z5.same (same_upd nl)) b6
      clear hR4 b5 b6 z4 z5 nl et ht r50 r51
      -- handed
      refine ⟨_, rfl, _, rfl, _, rfl, p, rs, t, rfl, hR6, by omega, (fun r hr => (okr r hr).2), fun H8 pc s8 npc hpc => ?_⟩
      have z8 := z6.same s8
      have lsc : (scR t rs).length = rs.length := List.length_map _
      refine ⟨sp, .ref pc, dSq (scR t rs), rfl, z8, sim_seq z8 hpc (by omega), fun H11 v9 b9 z11 h9 => ?_⟩
      have hR11 := (hR6.same s8).but z8 b9
      have hd5 := sim_runs h9
      clear hR6 h9 b9 z6 z8 hpc s8 npc
      have okt : SeqOk (scR t rs) := seq_sc t12.1 ok fun r hr => by
        have h1 := (okr r hr).2.1
        have := Int.mul_le_mul (show r.2 ≤ 9 from lg r hr) t12.2 (by omega) (by decide)
        omega
      have few : (setS (itR rs)).length < 64 := by
        have := set_few (rs := rs) (B := rs.map (·.1)) fun r hr => List.mem_map.mpr ⟨r, hr, rfl⟩
        rw [List.length_map] at this
        omega
      have len36 : lenR rs ≤ 3600 := by
        have := (len_bound (c := 9) fun r hr => ⟨pos r hr, lg r hr⟩).2
        omega
      -- repr
      have bD : But sp H11 (delA sp H11) := fun o x ne e => by
        unfold delA
        rw [if_neg ne]
        exact e
      obtain ⟨d, hd, nd⟩ := dps_runs (K := K) (hd5.but z11 bD) (fun r hr => ⟨(okt.2.1 r hr).1, by have := (okt.2.1 r hr).2; omega⟩) (by omega)
      have hd : ∀ H', But sp H11 H' → Dp K H' v9 d := fun H' b => hd H' fun o x e => by
        unfold delA at e
        by_cases c : o = sp
        · rw [if_pos c] at e
          cases e
        · rw [if_neg c] at e
          exact b o x c e
      obtain ⟨n1, n2, n3⟩ := nd.fits (by decide) (by decide)
      obtain ⟨l, _, rfl, _⟩ := id hd5
      refine ⟨_, rfl, l, d, rfl, hd _ (Same.but (Same.refl _)), n1, n2, n3, ?_⟩
      refine ⟨_, rfl, _, rfl, _, rfl, _, rfl, sp, .ref p, .ref l, rs, t, rfl, z11, hR11.dress, hd5, ok, okt, len36, few, t12.1, t12.2, fun H12 b12 z16 => ⟨true, rfl, iteF ?_⟩⟩
      refine ⟨_, rfl, l, d, rfl, hd _ b12, n1, n2, n3, _, rfl, rfl, _, rfl, iteN (by rw [decide_eq_true rfl]; rfl) ?_⟩
      have hR16 := hR11.but z11 b12
      clear hd nd n1 n2 n3 hR11 hd5 z11 b12 okt bD few len36
      -- held
      obtain ⟨xs, hx, hp⟩ := hR16
      have lx : xs.length = rs.length := Paired.len hp
      refine ⟨_, rfl, p, rfl, ⟨xs, .of hx⟩, fun L nL => lc_list (K := K) (a := p) (xs := xs) (fun i H' => Same H12 H' ∧ ∃ ys, H' L = some (.lst ys) ∧ ys.Nodup ∧ Paired (LRun H') ys (rs.take i)) ⟨same_upd nL, [], upd_same, List.nodup_nil, .nil⟩ (fun i H' _ p => .of (p.1 _ _ hx)) (fun i x H17 ex hP => ?_) (fun H17 hP => ?_)⟩
      · obtain ⟨sm, ys, hL, ndy, hy⟩ := hP
        obtain ⟨r, er, hr1⟩ := Paired.at hp ex
        obtain ⟨t, rfl, ht⟩ := RunV.same sm hr1
        have hi : i < xs.length := (List.getElem?_eq_some_iff.mp ex).1
        refine ⟨rfl, yesT ⟨_, rfl, t, _, rfl, .inr (.of ht), fun n nn => ⟨_, same_upd nn _ _ hL, ?_, same_grow nL (sm.trans (same_upd nn)), ys ++ [.ref n], upd_same, ?_, ?_⟩⟩⟩
        · have := Paired.len hy
          rw [List.length_take] at this
          exact small (by omega)
        · refine List.nodup_append.mpr ⟨ndy, List.nodup_cons.mpr ⟨by simp, List.nodup_nil⟩, fun b hb c hc => ?_⟩
          rw [List.mem_singleton.mp hc]
          intro z
          rw [z] at hb
          obtain ⟨j, hj, ej⟩ := List.mem_iff_getElem.mp hb
          obtain ⟨r', _, ⟨t', e', h'⟩⟩ := Paired.at hy (List.getElem?_eq_getElem hj)
          rw [ej] at e'
          cases e'
          rw [h'] at nn
          cases nn
        · rw [take_snoc er]
          have notr : ∀ r' : Run, ys ≠ [.str r'.1, .int r'.2] := fun r' z => by
            obtain ⟨_, _, ⟨_, e, _⟩⟩ := Paired.at (i := 0) (x := V.str r'.1) hy (by rw [z]; rfl)
            cases e
          refine Paired.app (Paired.imp (fun _ r' z => LRun.grow (same_upd nn _ _ hL) (notr r') (LRun.same (same_upd nn) z)) hy) (.cons (LRun.grow (same_upd nn _ _ hL) (notr r) ⟨n, rfl, upd_same⟩) .nil)
      · obtain ⟨s17, ys, hL, ndy, hy⟩ := hP
        have Lsp : L ≠ sp := Spr.ne z16 nL
        rw [lx, List.take_length] at hy
        have z17 := z16.same s17
        have ly := Paired.len hy
        clear z16 hx hp s17 nL lx
        -- two of them grow
        have Ls : L ≠ sp := Lsp
        refine ⟨_, rfl, 2, rfl, L, ys, rfl, .of hL, fun c nc => ⟨c, rfl, ⟨_, .of upd_same⟩, for_list (K := K) (a := c) (xs := cutV ys none (some 2)) (fun j σ H' => ∃ hs y10, σ = [some (.ref a), some (.ref sp), some (.int (0 + i)), none, none, some (.ref p), some (.int t), some (.ref l), some (.str d.shown), some (.ref L), y10, none] ∧ Spr H' sp ∧ H' c = some (.lst (cutV ys none (some 2))) ∧ H' L = some (.lst ys) ∧ Paired (LRun H') ys hs ∧ hs.map (·.1) = rs.map (·.1) ∧ ∀ r ∈ hs, 1 ≤ r.2 ∧ r.2 ≤ 9 + 2 * j)
          ⟨rs, _, rfl, z17.same (same_upd nc), upd_same, same_upd nc _ _ hL, Paired.imp (fun _ _ z => LRun.same (same_upd nc) z) hy, rfl, fun r hr => ⟨pos r hr, by have := lg r hr; omega⟩⟩ (fun j σ H' _ hP => ?_) (fun j x σ H18 ex hP => ?_) (fun σ H18 hP => ?_)⟩⟩
        · obtain ⟨_, _, _, _, hc, _⟩ := hP
          exact .of hc
        · obtain ⟨hs, y10, rfl, z18, hc, hL18, hys, em, bd⟩ := hP
          have csp : c ≠ sp := Spr.ne z17 nc
          have ey : ys[j]? = some x ∧ j < 2 := by
            have e := cut_first ys 2
            rw [show ((2 : Nat) : Int) = 2 from rfl] at e
            rw [e, List.getElem?_take] at ex
            split at ex
            · exact ⟨ex, by omega⟩
            · cases ex
          obtain ⟨r, er, ⟨tr, rfl, ht⟩⟩ := Paired.at hys ey.1
          have bdr := bd r (List.mem_of_getElem? er)
          refine ⟨_, rfl, tr, _, 1, _, rfl, rfl, .of ht, at1, _, _, rfl, rfl, _, rfl, tr, _, 1, 1, rfl, rfl, ht, rfl, ?_⟩
          have nys : ys ≠ [.str r.1, .int r.2] := fun z => by
            rw [z] at hys
            cases hys with
            | cons h _ =>
              obtain ⟨_, e, _⟩ := h
              cases e
          have ncut : cutV ys none (some 2) ≠ [.str r.1, .int r.2] := fun z => by
            have h0 : (cutV ys none (some 2))[0]? = some (.str r.1) := by rw [z]; rfl
            have e := cut_first ys 2
            rw [show ((2 : Nat) : Int) = 2 from rfl] at e
            rw [e, List.getElem?_take] at h0
            split at h0
            · obtain ⟨_, _, ⟨_, e, _⟩⟩ := Paired.at hys h0
              cases e
            · cases h0
          have hnew := lrun_set (o := .lst [.str r.1, .int (r.2 + 2)]) (r' := (r.1, r.2 + 2)) ndy hys ey.1 rfl
          have hLt : L ≠ tr := fun z => by
            rw [z, ht] at hL18
            exact nys (HO.lst.inj (Option.some.inj hL18)).symm
          have hct : c ≠ tr := fun z => by
            rw [z, ht] at hc
            exact ncut (HO.lst.inj (Option.some.inj hc)).symm
          have hst : sp ≠ tr := fun z => by
            obtain ⟨_, _, _, h1, _⟩ := z18
            rw [z, ht] at h1
            cases h1
          have zn : Spr (upd H18 tr (.lst [.str r.1, .int (r.2 + 2)])) sp := by
            obtain ⟨x1, x2, x3, h1, rest⟩ := z18
            exact ⟨x1, x2, x3, by rw [upd_ne hst]; exact h1, rest⟩
          have em' := (map_set (c := r.2 + 2) er).trans em
          have bd' : ∀ r' ∈ hs.set j (r.1, r.2 + 2), 1 ≤ r'.2 ∧ r'.2 ≤ 9 + 2 * ((j + 1 : Nat) : Int) := by
            intro r' hr'
            rcases List.mem_or_eq_of_mem_set hr' with z | z
            · have := bd r' z
              omega
            · rw [z]
              show 1 ≤ r.2 + 2 ∧ r.2 + 2 ≤ _
              omega
          have lh : (hs.set j (r.1, r.2 + 2)).length = rs.length := by
            have := congrArg List.length em'
            rw [List.length_map, List.length_map] at this
            exact this
          have hRn : RunsG (upd H18 tr (.lst [.str r.1, .int (r.2 + 2)])) (.ref L) (hs.set j (r.1, r.2 + 2)) := ⟨L, ys, rfl, .inl (by rw [upd_ne hLt]; exact hL18), Paired.imp (fun _ _ z => LRun.dress z) hnew⟩
          have okn : SeqOk (hs.set j (r.1, r.2 + 2)) := ⟨by omega, fun r' hr' => ⟨kinds_of em' (fun z hz => (okr z hz).1) r' hr', by have := bd' r' hr'; omega, by have := bd' r' hr'; omega⟩, alt_of em' ok.2.2⟩
          have one := scR_one (hs.set j (r.1, r.2 + 2))
          have few : (setS (itR (hs.set j (r.1, r.2 + 2)))).length < 64 := by
            have := set_few (rs := hs.set j (r.1, r.2 + 2)) (B := (hs.set j (r.1, r.2 + 2)).map (·.1)) fun r hr => List.mem_map.mpr ⟨r, hr, rfl⟩
            rw [List.length_map] at this
            omega
          have len36 : lenR (hs.set j (r.1, r.2 + 2)) ≤ 3600 := by
            have := (len_bound (c := 13) fun r' hr' => ⟨(bd' r' hr').1, by have := (bd' r' hr').2; omega⟩).2
            omega
          have hLn : (upd H18 tr (.lst [.str r.1, .int (r.2 + 2)])) L = some (.lst ys) := by rw [upd_ne hLt]; exact hL18
          have hcn : (upd H18 tr (.lst [.str r.1, .int (r.2 + 2)])) c = some (.lst (cutV ys none (some 2))) := by rw [upd_ne hct]; exact hc
          refine ⟨_, rfl, _, rfl, _, rfl, sp, .ref L, .ref L, hs.set j (r.1, r.2 + 2), 1, rfl, zn, hRn, (by rw [one]; exact hRn), okn, (by rw [one]; exact okn), len36, few, by decide, by decide, fun H19 b19 z19 => ⟨true, rfl, iteF ?_⟩⟩
          exact ⟨_, _, rfl, z19, b19 _ _ csp hcn, b19 _ _ Ls hLn, lruns_but zn b19 hnew, em', bd'⟩
        · obtain ⟨hs, y10, rfl, z18, _⟩ := hP
          exact ⟨_, _, _, _, _, _, _, rfl, z18⟩
    · obtain ⟨y2, y5, y6, y7, y8, y9, y10, rfl, z2⟩ := hP
      refine ⟨_, rfl, sp, rfl, z2, fun H3 wp ws b3 z3 nw hW okw w9 => ?_⟩
      have len36 : lenR ws ≤ 3600 := by
        have := (len_bound (c := 9) fun r hr => ⟨(okw.2.1 r hr).2.1, (w9 r hr).1⟩).2
        have := okw.1
        omega
      have few : (setS (itR ws)).length < 64 := by
        have := set_few (rs := ws) (B := kd52) fun r hr => (w9 r hr).2
        rw [kd52_len] at this
        omega
      -- thirteen
      refine ⟨_, rfl, fun L nL => lc_gen (n := thS.cps.size) (fun i H' => Same H3 H' ∧ ∃ ys, H' L = some (.lst ys) ∧ Paired (RunV H') ys (thR.take i)) ⟨same_upd nL, [], upd_same, .nil⟩ (fun i H' hi _ => hi) (fun H' _ => Nat.le_refl _) (fun i x H4 H5 hi p y => ?_) (fun H4 p => ?_)⟩
      · obtain ⟨rfl, c, ec, rfl⟩ := y
        obtain ⟨sm, ys, hL, hy⟩ := p
        have ec' : thS.cps.toList[i]? = some c := by
          rw [Array.getElem?_toList]
          exact ec
        have er : thR[i]? = some ((⟨#[c]⟩ : Str), (1 : Int)) := by
          unfold thR
          rw [List.getElem?_map, ec']
          rfl
        have hi : i < 13 := hi
        have ly := Paired.len hy
        rw [List.length_take] at ly
        refine ⟨rfl, yesT ⟨_, rfl, (by show 2 ≤ sizeLine; decide), fun n nn => ⟨_, same_upd nn _ _ hL, small (by omega), same_grow nL (sm.trans (same_upd nn)), _, upd_same, ?_⟩⟩⟩
        rw [take_snoc er]
        exact Paired.app (prs_grow (same_upd nn _ _ hL) (prs_same (same_upd nn) hy)) (.cons (RunV.grow (r := ((⟨#[c]⟩ : Str), (1 : Int))) (same_upd nn _ _ hL) ⟨n, rfl, upd_same⟩) .nil)
      obtain ⟨s4, ys, hL, hy⟩ := p
      rw [show thR.take thS.cps.size = thR from thR_all] at hy
      have one := scR_one ws
      have z4 := z3.same s4
      have hW4 := hW.same s4
      have hT4 : Runs H4 L thR := ⟨ys, hL, hy⟩
      refine ⟨_, rfl, _, rfl, _, rfl, sp, .ref wp, .ref wp, ws, 1, rfl, z4, hW4.dress, (by rw [one]; exact hW4.dress), okw, (by rw [one]; exact okw), len36, few, by decide, by decide, fun H5 b5 z5 => ⟨true, rfl, iteF ?_⟩⟩
      have hT5 := hT4.but z4 b5
      refine ⟨_, rfl, .ref L, thR, rfl, hT5.dress, thR_ok, fun H6 p6 out s6 n6 h6 ct so lo => ?_⟩
      have eo := CT.eq ct thR_ct so thR_so
      subst eo
      obtain ⟨xs, hx, hxp⟩ := hT5.same s6
      refine ⟨_, rfl, L, _, rfl, .of hx, fun q1 nq1 => ?_⟩
      have s7 := same_upd (o := .lst xs.reverse) nq1
      obtain ⟨zs, hz, hzp⟩ := h6.same s7
      have kth : ∀ r ∈ thR.reverse, KindOk r.1 := fun r hr => (thR_ok.2.1 r (List.mem_reverse.mp hr)).1
      refine ⟨.list (thR.reverse.map dRun), .list (thR.reverse.map dRun), .lst (.of hz) (dp_all hzp), .lst (.of upd_same) (dp_all (paired_rev (prs_same s7 hxp))), shaped_runs kth, shaped_runs kth, _, rfl, ?_⟩
      rw [eqv_runs]
      refine iteN rfl ?_
      -- the last part
      refine ⟨_, _, rfl, rfl, ⟨by decide, by decide, by decide⟩, (by show 2 ≤ sizeLine; decide), fun t1 k1 => ⟨(by show 2 ≤ sizeLine; decide), fun t2 k2 => ⟨(by show 2 ≤ sizeLine; decide), fun l nl => ?_⟩⟩⟩
      have u3 := same_upd (o := .lst [.ref t1, .ref t2]) nl
      have u2 := (same_upd (o := .tup [.str "b", .int 1]) k2).trans u3
      refine ⟨_, _, rfl, rfl, ⟨by decide, by decide, by decide⟩, _, _, rfl, rfl, .ref l, laR, (10 : Int) ^ ((30 : Int).toNat) - 3, 4, rfl, ⟨l, _, rfl, .inl upd_same, .cons ⟨t1, rfl, .inr (u2 _ _ upd_same)⟩ (.cons ⟨t2, rfl, .inr (u3 _ _ upd_same)⟩ .nil)⟩, laR_ok, by decide +kernel, by decide, by decide +kernel, fun H8 p8 s8 n8 h8 => ?_⟩
      have ev : cutR ((10 : Int) ^ ((30 : Int).toNat) - 3) ((10 : Int) ^ ((30 : Int).toNat) - 3 + 4) 0 laR = reR := by decide +kernel
      rw [ev] at h8
      obtain ⟨xs8, hx8, hp8⟩ := h8
      refine ⟨(by show 2 ≤ sizeLine; decide), fun q2 m2 => ⟨(by show 2 ≤ sizeLine; decide), fun q3 m3 => ⟨(by show 2 ≤ sizeLine; decide), fun q4 m4 => ?_⟩⟩⟩
      have v4 := same_upd (o := .lst [.ref q2, .ref q3]) m4
      have v3 := (same_upd (o := .tup [.str "b", .int 1]) m3).trans v4
      have v2 := (same_upd (o := .tup [.str "a", .int 3]) m2).trans v3
      have kab : ∀ r ∈ reR, KindOk r.1 := by decide +kernel
      refine ⟨.list (reR.map dRun), .list (reR.map dRun), .lst (.of (v2 _ _ hx8)) (dp_all (prs_same v2 hp8)), .lst (.of upd_same) (dp_all (.cons ⟨q2, rfl, v3 _ _ upd_same⟩ (.cons ⟨q3, rfl, v4 _ _ upd_same⟩ .nil))), shaped_runs kab, shaped_runs kab, ?_⟩
      rw [eqv_runs]
      exact q _
end
end UP

set_option Elab.async false
set_option linter.all false
set_option maxRecDepth 100000
set_option maxHeartbeats 4000000
namespace UP
open PySem PySem.Spec PyProof.Rows L2
section
variable {K : PySem.W.Frag} {h : Heap} {mg : Str → Option Value}
theorem df_mk {x : Str} {st : Stmt} {f : Addr} {od an : Option Addr} {sl : Array (Option Value)} {oc kV dc pm cd ct : Value} (X : K.In h) (G : h.Ns mainGlobals mg) (a : PySem.W.nsIn K mainGlobals x = some (some (.ref f)))
    (l : K.lookup f = some ⟨oc, od, .func (PySem.W.fnOf x x (defArgs st) (defBody st) (defScope st) .none kV dc pm an cd ct), sl⟩) (c : PySem.W.codeIn K cd x = true) (k : PySem.W.keepIn K (.ref f) = true) : Df K mg x st :=
  ⟨f, _, PySem.W.mg_of X G a, fun_mk l c k⟩
theorem dfd_mk {x : Str} {st : Stmt} {f T : Addr} {od an od2 : Option Addr} {sl sl2 : Array (Option Value)} {n2 : Nat} {oc kV dc pm cd ct oc2 : Value} (X : K.In h) (G : h.Ns mainGlobals mg) (a : PySem.W.nsIn K mainGlobals x = some (some (.ref f)))
    (l : K.lookup f = some ⟨oc, od, .func (PySem.W.fnOf x x (defArgs st) (defBody st) (defScope st) (.ref T) kV dc pm an cd ct), sl⟩) (t : K.lookup T = some ⟨oc2, od2, .seq #[.none] n2, sl2⟩) (c : PySem.W.codeIn K cd x = true) (k : PySem.W.keepIn K (.ref f) = true) : DfD K mg x st [.non] :=
  ⟨f, _, PySem.W.mg_of X G a, ⟨⟨oc, od, _, kV, dc, pm, an, cd, ct, sl, rfl, l, c, .inr ⟨(by intro z; cases z), T, _, [.none], n2, rfl, t, rfl, .cons rfl .nil⟩, .inl rfl⟩, k⟩⟩
theorem cst_mk {x : Str} {i : Int} {t : Tok} (X : K.In h) (G : h.Ns mainGlobals mg) (a : PySem.W.nsIn K mainGlobals x = some (some (.int i t))) : ∃ t, mg x = some (.int i t) := ⟨t, PySem.W.mg_of X G a⟩
end
/-- all that the top has written -/
structure Top (K : PySem.W.Frag) (mg : Str → Option Value) : Prop where
  T : Tx mg
  d_is_whole : Df K mg "is_whole" s_is_whole
  d_is_within : Df K mg "is_within" s_is_within
  d_is_listed : Df K mg "is_listed" s_is_listed
  d_is_couple : Df K mg "is_couple" s_is_couple
  d_is_kind : Df K mg "is_kind" s_is_kind
  d_is_run : Df K mg "is_run" s_is_run
  d_is_sequence : Df K mg "is_sequence" s_is_sequence
  d_checked_runs : Df K mg "checked_runs" s_checked_runs
  d_check_position : Df K mg "check_position" s_check_position
  d_length_of : Df K mg "length_of" s_length_of
  d_cut : Df K mg "cut" s_cut
  d_total_length : Df K mg "total_length" s_total_length
  d_counts_of : Df K mg "counts_of" s_counts_of
  d_kind_at : Df K mg "kind_at" s_kind_at
  d_part_of : Df K mg "part_of" s_part_of
  d_law_spring : Df K mg "_law_spring" s_law_spring
  d_law_draw : Df K mg "_law_draw" s_law_draw
  d_law_same : Df K mg "_law_same" s_law_same
  d_law_sequence : Df K mg "_law_sequence" s_law_sequence
  d_law_scaled : Df K mg "_law_scaled" s_law_scaled
  d_law_dressed : Df K mg "_law_dressed" s_law_dressed
  d_law_items : Df K mg "_law_items" s_law_items
  d_law_runs : Df K mg "_law_runs" s_law_runs
  d_law_right : Df K mg "_law_right" s_law_right
  d_law_wide : Df K mg "_law_wide" s_law_wide
theorem Top.law {P : Program} {w : World} {K : PySem.W.Frag} {mg : Str → Option Value} (Y : Top K mg) {f : Addr} {fd : FuncData} (F : Fun K "law" "law" s_law f fd) (base : Heap) : FnC P w K mg base f fd ["script"] (sp_law K) := by
  have T := Y.T
  have g_is_whole := ok_is_whole (P := P) (w := w) (base := base) Y.d_is_whole T
  have g_is_within := ok_is_within (P := P) (w := w) (base := base) Y.d_is_within g_is_whole
  have g_is_listed := ok_is_listed (P := P) (w := w) (base := base) Y.d_is_listed T
  have g_is_couple := ok_is_couple (P := P) (w := w) (base := base) Y.d_is_couple T
  have g_is_kind := ok_is_kind (P := P) (w := w) (base := base) Y.d_is_kind T
  have g_is_run := ok_is_run (P := P) (w := w) (base := base) Y.d_is_run T g_is_couple g_is_kind g_is_within
  have g_is_sequence := ok_is_sequence (P := P) (w := w) (base := base) Y.d_is_sequence T g_is_listed g_is_run
  have g_checked_runs := ok_checked_runs (P := P) (w := w) (base := base) Y.d_checked_runs T g_is_sequence
  have g_length_of := ok_length_of (P := P) (w := w) (base := base) Y.d_length_of T
  have g_cut := ok_cut (P := P) (w := w) (base := base) Y.d_cut T
  have g_part_of := ok_part_of (P := P) (w := w) (base := base) Y.d_part_of T g_checked_runs g_length_of g_is_within g_cut
  have g_check_position := ok_check_position (P := P) (w := w) (base := base) Y.d_check_position g_is_within g_length_of
  have g_law_draw := ok_law_draw (P := P) (w := w) (base := base) Y.d_law_draw T
  have g_law_spring := ok_law_spring (P := P) (w := w) (base := base) Y.d_law_spring T
  have g_law_sequence := ok_law_sequence (P := P) (w := w) (base := base) Y.d_law_sequence T g_law_draw
  have g_law_scaled := ok_law_scaled (P := P) (w := w) (base := base) Y.d_law_scaled
  have g_law_same := ok_law_same (P := P) (w := w) (base := base) Y.d_law_same T 3
  have g_law_dressed := ok_law_dressed (P := P) (w := w) (base := base) Y.d_law_dressed T g_law_draw 2
  have g_total_length := ok_total_length (P := P) (w := w) (base := base) Y.d_total_length g_checked_runs g_length_of
  have g_counts_of := ok_counts_of (P := P) (w := w) (base := base) Y.d_counts_of T g_checked_runs
  have g_kind_at := ok_kind_at (P := P) (w := w) (base := base) Y.d_kind_at g_checked_runs g_check_position g_cut
  have g_law_items := ok_law_items (P := P) (w := w) (base := base) Y.d_law_items
  have g_law_runs := ok_law_runs (P := P) (w := w) (base := base) Y.d_law_runs
  have g_law_wide := ok_law_wide (P := P) (w := w) (base := base) Y.d_law_wide T g_law_draw
  have g_law_right := ok_law_right (P := P) (w := w) (base := base) Y.d_law_right T g_law_draw g_law_items g_law_runs g_law_same g_total_length g_counts_of g_kind_at g_part_of
  exact fn_law F T g_law_spring g_law_draw g_law_sequence g_law_scaled g_law_dressed g_law_right g_law_wide g_counts_of g_part_of
theorem all_mk {P : Program} {w : World} {K : PySem.W.Frag} {h : Heap} {mg : Str → Option Value} {fa f : Addr} {od an : Option Addr} {sl : Array (Option Value)} {oc kV dc pm cd ct : Value} (X : K.In h) (G : h.Ns mainGlobals mg) (hfa : mg "law" = some (.ref fa)) (a : PySem.W.nsIn K mainGlobals "law" = some (some (.ref f)))
    (l : K.lookup f = some ⟨oc, od, .func (PySem.W.fnOf "law" "law" (defArgs s_law) (defBody s_law) (defScope s_law) .none kV dc pm an cd ct), sl⟩) (c : PySem.W.codeIn K cd "law" = true) (k : PySem.W.keepIn K (.ref f) = true) (Y : Top K mg) :
    ∃ fd : FuncData, (∀ (s : Shared) (v : Value), BindsTo s fd ⟨[v], []⟩ [("script", v)]) ∧ ∀ base : Heap, K.In base → base.Ns mainGlobals mg → FnC P w K mg base fa fd ["script"] (sp_law K) := by
  have e := hfa.symm.trans (PySem.W.mg_of X G a)
  cases e
  exact ⟨_, fun s v => .of_eq rfl, fun base _ _ => Y.law (fun_mk (st := s_law) l c k) base⟩
end UP
open PySem PySem.W PyProof.Rows
set_option maxHeartbeats 0 in
theorem PySem.Challenge.cw_unlikepairs_k02_lengths_kinds_and_parts_holds : PySem.Challenge.rw_unlikepairs_k02_lengths_kinds_and_parts.Holds := by
  w_on; o_law; k_head; (case hw => w_witness2)
  k_fill
  refine UP.walkC (l := PySem.Challenge.rw_unlikepairs_k02_lengths_kinds_and_parts) (n := 63) (x := "script") (sp := fun w => UP.sp_law _) rfl (by decide) rfl (fun w h Y => PySem.W.kIn_of Y) ?F (fun _ _ a ns hl hS => ⟨a, ns, rfl, hS, hl, fun _ => rfl⟩)
  case F =>
    intro w mg fa h KX G hmg
    refine' UP.all_mk KX G hmg ?a ?l ?c ?k ?Y
    (case a => k_is); (case l => k_is); (case c => k_is); (case k => k_is)
    case Y =>
      constructor
      · constructor
        · refine' PySem.W.mg_none_of KX G ?z; (case z => k_is)
        · refine' PySem.W.mg_none_of KX G ?z; (case z => k_is)
        · refine' PySem.W.mg_none_of KX G ?z; (case z => k_is)
        · refine' PySem.W.mg_none_of KX G ?z; (case z => k_is)
        · refine' PySem.W.mg_none_of KX G ?z; (case z => k_is)
        · refine' PySem.W.mg_none_of KX G ?z; (case z => k_is)
        · refine' PySem.W.mg_none_of KX G ?z; (case z => k_is)
        · refine' PySem.W.mg_none_of KX G ?z; (case z => k_is)
        · refine' PySem.W.mg_none_of KX G ?z; (case z => k_is)
        · refine' PySem.W.mg_none_of KX G ?z; (case z => k_is)
        · refine' PySem.W.mg_none_of KX G ?z; (case z => k_is)
        · refine' PySem.W.mg_none_of KX G ?z; (case z => k_is)
        · refine' PySem.W.mg_none_of KX G ?z; (case z => k_is)
        · refine' PySem.W.mg_none_of KX G ?z; (case z => k_is)
        · refine' PySem.W.mg_none_of KX G ?z; (case z => k_is)
        · refine' PySem.W.mg_none_of KX G ?z; (case z => k_is)
        · refine' PySem.W.mg_none_of KX G ?z; (case z => k_is)
        · refine' PySem.W.mg_none_of KX G ?z; (case z => k_is)
        · refine' PySem.W.mg_none_of KX G ?z; (case z => k_is)
        · refine' PySem.W.mg_none_of KX G ?z; (case z => k_is)
        · refine' PySem.W.mg_none_of KX G ?z; (case z => k_is)
        · refine' UP.cst_mk KX G ?z; (case z => k_is)
        · refine' UP.cst_mk KX G ?z; (case z => k_is)
        · refine' UP.cst_mk KX G ?z; (case z => k_is)
      · refine' UP.df_mk KX G ?a ?l ?c ?k; (case a => k_is); (case l => k_is); (case c => k_is); (case k => k_is)
      · refine' UP.df_mk KX G ?a ?l ?c ?k; (case a => k_is); (case l => k_is); (case c => k_is); (case k => k_is)
      · refine' UP.df_mk KX G ?a ?l ?c ?k; (case a => k_is); (case l => k_is); (case c => k_is); (case k => k_is)
      · refine' UP.df_mk KX G ?a ?l ?c ?k; (case a => k_is); (case l => k_is); (case c => k_is); (case k => k_is)
      · refine' UP.df_mk KX G ?a ?l ?c ?k; (case a => k_is); (case l => k_is); (case c => k_is); (case k => k_is)
      · refine' UP.df_mk KX G ?a ?l ?c ?k; (case a => k_is); (case l => k_is); (case c => k_is); (case k => k_is)
      · refine' UP.df_mk KX G ?a ?l ?c ?k; (case a => k_is); (case l => k_is); (case c => k_is); (case k => k_is)
      · refine' UP.df_mk KX G ?a ?l ?c ?k; (case a => k_is); (case l => k_is); (case c => k_is); (case k => k_is)
      · refine' UP.df_mk KX G ?a ?l ?c ?k; (case a => k_is); (case l => k_is); (case c => k_is); (case k => k_is)
      · refine' UP.df_mk KX G ?a ?l ?c ?k; (case a => k_is); (case l => k_is); (case c => k_is); (case k => k_is)
      · refine' UP.df_mk KX G ?a ?l ?c ?k; (case a => k_is); (case l => k_is); (case c => k_is); (case k => k_is)
      · refine' UP.df_mk KX G ?a ?l ?c ?k; (case a => k_is); (case l => k_is); (case c => k_is); (case k => k_is)
      · refine' UP.df_mk KX G ?a ?l ?c ?k; (case a => k_is); (case l => k_is); (case c => k_is); (case k => k_is)
      · refine' UP.df_mk KX G ?a ?l ?c ?k; (case a => k_is); (case l => k_is); (case c => k_is); (case k => k_is)
      · refine' UP.df_mk KX G ?a ?l ?c ?k; (case a => k_is); (case l => k_is); (case c => k_is); (case k => k_is)
      · refine' UP.df_mk KX G ?a ?l ?c ?k; (case a => k_is); (case l => k_is); (case c => k_is); (case k => k_is)
      · refine' UP.df_mk KX G ?a ?l ?c ?k; (case a => k_is); (case l => k_is); (case c => k_is); (case k => k_is)
      · refine' UP.df_mk KX G ?a ?l ?c ?k; (case a => k_is); (case l => k_is); (case c => k_is); (case k => k_is)
      · refine' UP.df_mk KX G ?a ?l ?c ?k; (case a => k_is); (case l => k_is); (case c => k_is); (case k => k_is)
      · refine' UP.df_mk KX G ?a ?l ?c ?k; (case a => k_is); (case l => k_is); (case c => k_is); (case k => k_is)
      · refine' UP.df_mk KX G ?a ?l ?c ?k; (case a => k_is); (case l => k_is); (case c => k_is); (case k => k_is)
      · refine' UP.df_mk KX G ?a ?l ?c ?k; (case a => k_is); (case l => k_is); (case c => k_is); (case k => k_is)
      · refine' UP.df_mk KX G ?a ?l ?c ?k; (case a => k_is); (case l => k_is); (case c => k_is); (case k => k_is)
      · refine' UP.df_mk KX G ?a ?l ?c ?k; (case a => k_is); (case l => k_is); (case c => k_is); (case k => k_is)
      · refine' UP.df_mk KX G ?a ?l ?c ?k; (case a => k_is); (case l => k_is); (case c => k_is); (case k => k_is)
