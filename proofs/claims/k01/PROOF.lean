import PyProof.Rows.All
import Wide.All
import OpenK.AllK
import Wide.FinOn
import PyProof.EqAt
import PyProof.EqKinds
import PyProof.TupleCall
import HandS.ForMost
import HandS.IsInst
import HandS.Property
import HandS.Zip
import HandS.Walk
import HandS.TupAny
import KE.GoesEnum
import HandS.Exc
import HandS.ExcInit
import HandS.Nested
import KE.KExcSuper
import KE.RegKSuper
import HandS.TryMany
import HandS.ExcIs
import HandS.ExcField
import HandS.Style
import HandS.TupMul
import HandS.SlotsOwn
import HandS.OwnEq
import HandS.ExcOwn
import OpenK.KOps
import HandS.FStr
import HandS.WordsExc
import PySem.Challenge.RW_butfewrows_k01_machines_refused
set_option Elab.async false
set_option linter.all false
set_option maxRecDepth 100000
set_option maxHeartbeats 4000000
namespace BF
open PySem PySem.Spec L2 RZ
open PyProof.Rows hiding St
theorem e_v0 {r : St} {v : V} {H : Hp} {Q : VK} (q : Q v H) : tVar 0 (some v :: r) H Q := ⟨v, rfl, q⟩
theorem e_v1 {a0 : Option V} {r : St} {v : V} {H : Hp} {Q : VK} (q : Q v H) : tVar 1 (a0 :: some v :: r) H Q := ⟨v, rfl, q⟩
theorem e_v2 {a0 a1 : Option V} {r : St} {v : V} {H : Hp} {Q : VK} (q : Q v H) : tVar 2 (a0 :: a1 :: some v :: r) H Q := ⟨v, rfl, q⟩
theorem e_v3 {a0 a1 a2 : Option V} {r : St} {v : V} {H : Hp} {Q : VK} (q : Q v H) : tVar 3 (a0 :: a1 :: a2 :: some v :: r) H Q := ⟨v, rfl, q⟩
theorem e_v4 {a0 a1 a2 a3 : Option V} {r : St} {v : V} {H : Hp} {Q : VK} (q : Q v H) : tVar 4 (a0 :: a1 :: a2 :: a3 :: some v :: r) H Q := ⟨v, rfl, q⟩
theorem e_v5 {a0 a1 a2 a3 a4 : Option V} {r : St} {v : V} {H : Hp} {Q : VK} (q : Q v H) : tVar 5 (a0 :: a1 :: a2 :: a3 :: a4 :: some v :: r) H Q := ⟨v, rfl, q⟩
theorem e_v6 {a0 a1 a2 a3 a4 a5 : Option V} {r : St} {v : V} {H : Hp} {Q : VK} (q : Q v H) : tVar 6 (a0 :: a1 :: a2 :: a3 :: a4 :: a5 :: some v :: r) H Q := ⟨v, rfl, q⟩
theorem e_v7 {a0 a1 a2 a3 a4 a5 a6 : Option V} {r : St} {v : V} {H : Hp} {Q : VK} (q : Q v H) : tVar 7 (a0 :: a1 :: a2 :: a3 :: a4 :: a5 :: a6 :: some v :: r) H Q := ⟨v, rfl, q⟩
theorem e_v8 {a0 a1 a2 a3 a4 a5 a6 a7 : Option V} {r : St} {v : V} {H : Hp} {Q : VK} (q : Q v H) : tVar 8 (a0 :: a1 :: a2 :: a3 :: a4 :: a5 :: a6 :: a7 :: some v :: r) H Q := ⟨v, rfl, q⟩
theorem e_v9 {a0 a1 a2 a3 a4 a5 a6 a7 a8 : Option V} {r : St} {v : V} {H : Hp} {Q : VK} (q : Q v H) : tVar 9 (a0 :: a1 :: a2 :: a3 :: a4 :: a5 :: a6 :: a7 :: a8 :: some v :: r) H Q := ⟨v, rfl, q⟩
theorem e_v10 {a0 a1 a2 a3 a4 a5 a6 a7 a8 a9 : Option V} {r : St} {v : V} {H : Hp} {Q : VK} (q : Q v H) : tVar 10 (a0 :: a1 :: a2 :: a3 :: a4 :: a5 :: a6 :: a7 :: a8 :: a9 :: some v :: r) H Q := ⟨v, rfl, q⟩
theorem e_v11 {a0 a1 a2 a3 a4 a5 a6 a7 a8 a9 a10 : Option V} {r : St} {v : V} {H : Hp} {Q : VK} (q : Q v H) : tVar 11 (a0 :: a1 :: a2 :: a3 :: a4 :: a5 :: a6 :: a7 :: a8 :: a9 :: a10 :: some v :: r) H Q := ⟨v, rfl, q⟩
theorem e_v12 {a0 a1 a2 a3 a4 a5 a6 a7 a8 a9 a10 a11 : Option V} {r : St} {v : V} {H : Hp} {Q : VK} (q : Q v H) : tVar 12 (a0 :: a1 :: a2 :: a3 :: a4 :: a5 :: a6 :: a7 :: a8 :: a9 :: a10 :: a11 :: some v :: r) H Q := ⟨v, rfl, q⟩
theorem e_v13 {a0 a1 a2 a3 a4 a5 a6 a7 a8 a9 a10 a11 a12 : Option V} {r : St} {v : V} {H : Hp} {Q : VK} (q : Q v H) : tVar 13 (a0 :: a1 :: a2 :: a3 :: a4 :: a5 :: a6 :: a7 :: a8 :: a9 :: a10 :: a11 :: a12 :: some v :: r) H Q := ⟨v, rfl, q⟩
theorem e_v14 {a0 a1 a2 a3 a4 a5 a6 a7 a8 a9 a10 a11 a12 a13 : Option V} {r : St} {v : V} {H : Hp} {Q : VK} (q : Q v H) : tVar 14 (a0 :: a1 :: a2 :: a3 :: a4 :: a5 :: a6 :: a7 :: a8 :: a9 :: a10 :: a11 :: a12 :: a13 :: some v :: r) H Q := ⟨v, rfl, q⟩
theorem e_v15 {a0 a1 a2 a3 a4 a5 a6 a7 a8 a9 a10 a11 a12 a13 a14 : Option V} {r : St} {v : V} {H : Hp} {Q : VK} (q : Q v H) : tVar 15 (a0 :: a1 :: a2 :: a3 :: a4 :: a5 :: a6 :: a7 :: a8 :: a9 :: a10 :: a11 :: a12 :: a13 :: a14 :: some v :: r) H Q := ⟨v, rfl, q⟩
theorem e_v16 {a0 a1 a2 a3 a4 a5 a6 a7 a8 a9 a10 a11 a12 a13 a14 a15 : Option V} {r : St} {v : V} {H : Hp} {Q : VK} (q : Q v H) : tVar 16 (a0 :: a1 :: a2 :: a3 :: a4 :: a5 :: a6 :: a7 :: a8 :: a9 :: a10 :: a11 :: a12 :: a13 :: a14 :: a15 :: some v :: r) H Q := ⟨v, rfl, q⟩
theorem e_v17 {a0 a1 a2 a3 a4 a5 a6 a7 a8 a9 a10 a11 a12 a13 a14 a15 a16 : Option V} {r : St} {v : V} {H : Hp} {Q : VK} (q : Q v H) : tVar 17 (a0 :: a1 :: a2 :: a3 :: a4 :: a5 :: a6 :: a7 :: a8 :: a9 :: a10 :: a11 :: a12 :: a13 :: a14 :: a15 :: a16 :: some v :: r) H Q := ⟨v, rfl, q⟩
theorem e_v18 {a0 a1 a2 a3 a4 a5 a6 a7 a8 a9 a10 a11 a12 a13 a14 a15 a16 a17 : Option V} {r : St} {v : V} {H : Hp} {Q : VK} (q : Q v H) : tVar 18 (a0 :: a1 :: a2 :: a3 :: a4 :: a5 :: a6 :: a7 :: a8 :: a9 :: a10 :: a11 :: a12 :: a13 :: a14 :: a15 :: a16 :: a17 :: some v :: r) H Q := ⟨v, rfl, q⟩
theorem e_v19 {a0 a1 a2 a3 a4 a5 a6 a7 a8 a9 a10 a11 a12 a13 a14 a15 a16 a17 a18 : Option V} {r : St} {v : V} {H : Hp} {Q : VK} (q : Q v H) : tVar 19 (a0 :: a1 :: a2 :: a3 :: a4 :: a5 :: a6 :: a7 :: a8 :: a9 :: a10 :: a11 :: a12 :: a13 :: a14 :: a15 :: a16 :: a17 :: a18 :: some v :: r) H Q := ⟨v, rfl, q⟩
theorem e_v20 {a0 a1 a2 a3 a4 a5 a6 a7 a8 a9 a10 a11 a12 a13 a14 a15 a16 a17 a18 a19 : Option V} {r : St} {v : V} {H : Hp} {Q : VK} (q : Q v H) : tVar 20 (a0 :: a1 :: a2 :: a3 :: a4 :: a5 :: a6 :: a7 :: a8 :: a9 :: a10 :: a11 :: a12 :: a13 :: a14 :: a15 :: a16 :: a17 :: a18 :: a19 :: some v :: r) H Q := ⟨v, rfl, q⟩
theorem e_v21 {a0 a1 a2 a3 a4 a5 a6 a7 a8 a9 a10 a11 a12 a13 a14 a15 a16 a17 a18 a19 a20 : Option V} {r : St} {v : V} {H : Hp} {Q : VK} (q : Q v H) : tVar 21 (a0 :: a1 :: a2 :: a3 :: a4 :: a5 :: a6 :: a7 :: a8 :: a9 :: a10 :: a11 :: a12 :: a13 :: a14 :: a15 :: a16 :: a17 :: a18 :: a19 :: a20 :: some v :: r) H Q := ⟨v, rfl, q⟩
theorem e_v22 {a0 a1 a2 a3 a4 a5 a6 a7 a8 a9 a10 a11 a12 a13 a14 a15 a16 a17 a18 a19 a20 a21 : Option V} {r : St} {v : V} {H : Hp} {Q : VK} (q : Q v H) : tVar 22 (a0 :: a1 :: a2 :: a3 :: a4 :: a5 :: a6 :: a7 :: a8 :: a9 :: a10 :: a11 :: a12 :: a13 :: a14 :: a15 :: a16 :: a17 :: a18 :: a19 :: a20 :: a21 :: some v :: r) H Q := ⟨v, rfl, q⟩
theorem e_v23 {a0 a1 a2 a3 a4 a5 a6 a7 a8 a9 a10 a11 a12 a13 a14 a15 a16 a17 a18 a19 a20 a21 a22 : Option V} {r : St} {v : V} {H : Hp} {Q : VK} (q : Q v H) : tVar 23 (a0 :: a1 :: a2 :: a3 :: a4 :: a5 :: a6 :: a7 :: a8 :: a9 :: a10 :: a11 :: a12 :: a13 :: a14 :: a15 :: a16 :: a17 :: a18 :: a19 :: a20 :: a21 :: a22 :: some v :: r) H Q := ⟨v, rfl, q⟩
theorem e_v24 {a0 a1 a2 a3 a4 a5 a6 a7 a8 a9 a10 a11 a12 a13 a14 a15 a16 a17 a18 a19 a20 a21 a22 a23 : Option V} {r : St} {v : V} {H : Hp} {Q : VK} (q : Q v H) : tVar 24 (a0 :: a1 :: a2 :: a3 :: a4 :: a5 :: a6 :: a7 :: a8 :: a9 :: a10 :: a11 :: a12 :: a13 :: a14 :: a15 :: a16 :: a17 :: a18 :: a19 :: a20 :: a21 :: a22 :: a23 :: some v :: r) H Q := ⟨v, rfl, q⟩
theorem e_v25 {a0 a1 a2 a3 a4 a5 a6 a7 a8 a9 a10 a11 a12 a13 a14 a15 a16 a17 a18 a19 a20 a21 a22 a23 a24 : Option V} {r : St} {v : V} {H : Hp} {Q : VK} (q : Q v H) : tVar 25 (a0 :: a1 :: a2 :: a3 :: a4 :: a5 :: a6 :: a7 :: a8 :: a9 :: a10 :: a11 :: a12 :: a13 :: a14 :: a15 :: a16 :: a17 :: a18 :: a19 :: a20 :: a21 :: a22 :: a23 :: a24 :: some v :: r) H Q := ⟨v, rfl, q⟩
theorem g_n0 {a0 : Option V} {r : St} {v : V} {H : Hp} {Q : St → Hp → Prop} (q : Q (some v :: r) H) : gName 0 v (a0 :: r) H Q := q
theorem g_n1 {a0 a1 : Option V} {r : St} {v : V} {H : Hp} {Q : St → Hp → Prop} (q : Q (a0 :: some v :: r) H) : gName 1 v (a0 :: a1 :: r) H Q := q
theorem g_n2 {a0 a1 a2 : Option V} {r : St} {v : V} {H : Hp} {Q : St → Hp → Prop} (q : Q (a0 :: a1 :: some v :: r) H) : gName 2 v (a0 :: a1 :: a2 :: r) H Q := q
theorem g_n3 {a0 a1 a2 a3 : Option V} {r : St} {v : V} {H : Hp} {Q : St → Hp → Prop} (q : Q (a0 :: a1 :: a2 :: some v :: r) H) : gName 3 v (a0 :: a1 :: a2 :: a3 :: r) H Q := q
theorem g_n4 {a0 a1 a2 a3 a4 : Option V} {r : St} {v : V} {H : Hp} {Q : St → Hp → Prop} (q : Q (a0 :: a1 :: a2 :: a3 :: some v :: r) H) : gName 4 v (a0 :: a1 :: a2 :: a3 :: a4 :: r) H Q := q
theorem g_n5 {a0 a1 a2 a3 a4 a5 : Option V} {r : St} {v : V} {H : Hp} {Q : St → Hp → Prop} (q : Q (a0 :: a1 :: a2 :: a3 :: a4 :: some v :: r) H) : gName 5 v (a0 :: a1 :: a2 :: a3 :: a4 :: a5 :: r) H Q := q
theorem g_n6 {a0 a1 a2 a3 a4 a5 a6 : Option V} {r : St} {v : V} {H : Hp} {Q : St → Hp → Prop} (q : Q (a0 :: a1 :: a2 :: a3 :: a4 :: a5 :: some v :: r) H) : gName 6 v (a0 :: a1 :: a2 :: a3 :: a4 :: a5 :: a6 :: r) H Q := q
theorem g_n7 {a0 a1 a2 a3 a4 a5 a6 a7 : Option V} {r : St} {v : V} {H : Hp} {Q : St → Hp → Prop} (q : Q (a0 :: a1 :: a2 :: a3 :: a4 :: a5 :: a6 :: some v :: r) H) : gName 7 v (a0 :: a1 :: a2 :: a3 :: a4 :: a5 :: a6 :: a7 :: r) H Q := q
theorem g_n8 {a0 a1 a2 a3 a4 a5 a6 a7 a8 : Option V} {r : St} {v : V} {H : Hp} {Q : St → Hp → Prop} (q : Q (a0 :: a1 :: a2 :: a3 :: a4 :: a5 :: a6 :: a7 :: some v :: r) H) : gName 8 v (a0 :: a1 :: a2 :: a3 :: a4 :: a5 :: a6 :: a7 :: a8 :: r) H Q := q
theorem g_n9 {a0 a1 a2 a3 a4 a5 a6 a7 a8 a9 : Option V} {r : St} {v : V} {H : Hp} {Q : St → Hp → Prop} (q : Q (a0 :: a1 :: a2 :: a3 :: a4 :: a5 :: a6 :: a7 :: a8 :: some v :: r) H) : gName 9 v (a0 :: a1 :: a2 :: a3 :: a4 :: a5 :: a6 :: a7 :: a8 :: a9 :: r) H Q := q
theorem g_n10 {a0 a1 a2 a3 a4 a5 a6 a7 a8 a9 a10 : Option V} {r : St} {v : V} {H : Hp} {Q : St → Hp → Prop} (q : Q (a0 :: a1 :: a2 :: a3 :: a4 :: a5 :: a6 :: a7 :: a8 :: a9 :: some v :: r) H) : gName 10 v (a0 :: a1 :: a2 :: a3 :: a4 :: a5 :: a6 :: a7 :: a8 :: a9 :: a10 :: r) H Q := q
theorem g_n11 {a0 a1 a2 a3 a4 a5 a6 a7 a8 a9 a10 a11 : Option V} {r : St} {v : V} {H : Hp} {Q : St → Hp → Prop} (q : Q (a0 :: a1 :: a2 :: a3 :: a4 :: a5 :: a6 :: a7 :: a8 :: a9 :: a10 :: some v :: r) H) : gName 11 v (a0 :: a1 :: a2 :: a3 :: a4 :: a5 :: a6 :: a7 :: a8 :: a9 :: a10 :: a11 :: r) H Q := q
theorem g_n12 {a0 a1 a2 a3 a4 a5 a6 a7 a8 a9 a10 a11 a12 : Option V} {r : St} {v : V} {H : Hp} {Q : St → Hp → Prop} (q : Q (a0 :: a1 :: a2 :: a3 :: a4 :: a5 :: a6 :: a7 :: a8 :: a9 :: a10 :: a11 :: some v :: r) H) : gName 12 v (a0 :: a1 :: a2 :: a3 :: a4 :: a5 :: a6 :: a7 :: a8 :: a9 :: a10 :: a11 :: a12 :: r) H Q := q
theorem g_n13 {a0 a1 a2 a3 a4 a5 a6 a7 a8 a9 a10 a11 a12 a13 : Option V} {r : St} {v : V} {H : Hp} {Q : St → Hp → Prop} (q : Q (a0 :: a1 :: a2 :: a3 :: a4 :: a5 :: a6 :: a7 :: a8 :: a9 :: a10 :: a11 :: a12 :: some v :: r) H) : gName 13 v (a0 :: a1 :: a2 :: a3 :: a4 :: a5 :: a6 :: a7 :: a8 :: a9 :: a10 :: a11 :: a12 :: a13 :: r) H Q := q
theorem g_n14 {a0 a1 a2 a3 a4 a5 a6 a7 a8 a9 a10 a11 a12 a13 a14 : Option V} {r : St} {v : V} {H : Hp} {Q : St → Hp → Prop} (q : Q (a0 :: a1 :: a2 :: a3 :: a4 :: a5 :: a6 :: a7 :: a8 :: a9 :: a10 :: a11 :: a12 :: a13 :: some v :: r) H) : gName 14 v (a0 :: a1 :: a2 :: a3 :: a4 :: a5 :: a6 :: a7 :: a8 :: a9 :: a10 :: a11 :: a12 :: a13 :: a14 :: r) H Q := q
theorem g_n15 {a0 a1 a2 a3 a4 a5 a6 a7 a8 a9 a10 a11 a12 a13 a14 a15 : Option V} {r : St} {v : V} {H : Hp} {Q : St → Hp → Prop} (q : Q (a0 :: a1 :: a2 :: a3 :: a4 :: a5 :: a6 :: a7 :: a8 :: a9 :: a10 :: a11 :: a12 :: a13 :: a14 :: some v :: r) H) : gName 15 v (a0 :: a1 :: a2 :: a3 :: a4 :: a5 :: a6 :: a7 :: a8 :: a9 :: a10 :: a11 :: a12 :: a13 :: a14 :: a15 :: r) H Q := q
theorem g_n16 {a0 a1 a2 a3 a4 a5 a6 a7 a8 a9 a10 a11 a12 a13 a14 a15 a16 : Option V} {r : St} {v : V} {H : Hp} {Q : St → Hp → Prop} (q : Q (a0 :: a1 :: a2 :: a3 :: a4 :: a5 :: a6 :: a7 :: a8 :: a9 :: a10 :: a11 :: a12 :: a13 :: a14 :: a15 :: some v :: r) H) : gName 16 v (a0 :: a1 :: a2 :: a3 :: a4 :: a5 :: a6 :: a7 :: a8 :: a9 :: a10 :: a11 :: a12 :: a13 :: a14 :: a15 :: a16 :: r) H Q := q
theorem g_n17 {a0 a1 a2 a3 a4 a5 a6 a7 a8 a9 a10 a11 a12 a13 a14 a15 a16 a17 : Option V} {r : St} {v : V} {H : Hp} {Q : St → Hp → Prop} (q : Q (a0 :: a1 :: a2 :: a3 :: a4 :: a5 :: a6 :: a7 :: a8 :: a9 :: a10 :: a11 :: a12 :: a13 :: a14 :: a15 :: a16 :: some v :: r) H) : gName 17 v (a0 :: a1 :: a2 :: a3 :: a4 :: a5 :: a6 :: a7 :: a8 :: a9 :: a10 :: a11 :: a12 :: a13 :: a14 :: a15 :: a16 :: a17 :: r) H Q := q
theorem g_n18 {a0 a1 a2 a3 a4 a5 a6 a7 a8 a9 a10 a11 a12 a13 a14 a15 a16 a17 a18 : Option V} {r : St} {v : V} {H : Hp} {Q : St → Hp → Prop} (q : Q (a0 :: a1 :: a2 :: a3 :: a4 :: a5 :: a6 :: a7 :: a8 :: a9 :: a10 :: a11 :: a12 :: a13 :: a14 :: a15 :: a16 :: a17 :: some v :: r) H) : gName 18 v (a0 :: a1 :: a2 :: a3 :: a4 :: a5 :: a6 :: a7 :: a8 :: a9 :: a10 :: a11 :: a12 :: a13 :: a14 :: a15 :: a16 :: a17 :: a18 :: r) H Q := q
theorem g_n19 {a0 a1 a2 a3 a4 a5 a6 a7 a8 a9 a10 a11 a12 a13 a14 a15 a16 a17 a18 a19 : Option V} {r : St} {v : V} {H : Hp} {Q : St → Hp → Prop} (q : Q (a0 :: a1 :: a2 :: a3 :: a4 :: a5 :: a6 :: a7 :: a8 :: a9 :: a10 :: a11 :: a12 :: a13 :: a14 :: a15 :: a16 :: a17 :: a18 :: some v :: r) H) : gName 19 v (a0 :: a1 :: a2 :: a3 :: a4 :: a5 :: a6 :: a7 :: a8 :: a9 :: a10 :: a11 :: a12 :: a13 :: a14 :: a15 :: a16 :: a17 :: a18 :: a19 :: r) H Q := q
theorem g_n20 {a0 a1 a2 a3 a4 a5 a6 a7 a8 a9 a10 a11 a12 a13 a14 a15 a16 a17 a18 a19 a20 : Option V} {r : St} {v : V} {H : Hp} {Q : St → Hp → Prop} (q : Q (a0 :: a1 :: a2 :: a3 :: a4 :: a5 :: a6 :: a7 :: a8 :: a9 :: a10 :: a11 :: a12 :: a13 :: a14 :: a15 :: a16 :: a17 :: a18 :: a19 :: some v :: r) H) : gName 20 v (a0 :: a1 :: a2 :: a3 :: a4 :: a5 :: a6 :: a7 :: a8 :: a9 :: a10 :: a11 :: a12 :: a13 :: a14 :: a15 :: a16 :: a17 :: a18 :: a19 :: a20 :: r) H Q := q
theorem g_n21 {a0 a1 a2 a3 a4 a5 a6 a7 a8 a9 a10 a11 a12 a13 a14 a15 a16 a17 a18 a19 a20 a21 : Option V} {r : St} {v : V} {H : Hp} {Q : St → Hp → Prop} (q : Q (a0 :: a1 :: a2 :: a3 :: a4 :: a5 :: a6 :: a7 :: a8 :: a9 :: a10 :: a11 :: a12 :: a13 :: a14 :: a15 :: a16 :: a17 :: a18 :: a19 :: a20 :: some v :: r) H) : gName 21 v (a0 :: a1 :: a2 :: a3 :: a4 :: a5 :: a6 :: a7 :: a8 :: a9 :: a10 :: a11 :: a12 :: a13 :: a14 :: a15 :: a16 :: a17 :: a18 :: a19 :: a20 :: a21 :: r) H Q := q
theorem g_n22 {a0 a1 a2 a3 a4 a5 a6 a7 a8 a9 a10 a11 a12 a13 a14 a15 a16 a17 a18 a19 a20 a21 a22 : Option V} {r : St} {v : V} {H : Hp} {Q : St → Hp → Prop} (q : Q (a0 :: a1 :: a2 :: a3 :: a4 :: a5 :: a6 :: a7 :: a8 :: a9 :: a10 :: a11 :: a12 :: a13 :: a14 :: a15 :: a16 :: a17 :: a18 :: a19 :: a20 :: a21 :: some v :: r) H) : gName 22 v (a0 :: a1 :: a2 :: a3 :: a4 :: a5 :: a6 :: a7 :: a8 :: a9 :: a10 :: a11 :: a12 :: a13 :: a14 :: a15 :: a16 :: a17 :: a18 :: a19 :: a20 :: a21 :: a22 :: r) H Q := q
theorem g_n23 {a0 a1 a2 a3 a4 a5 a6 a7 a8 a9 a10 a11 a12 a13 a14 a15 a16 a17 a18 a19 a20 a21 a22 a23 : Option V} {r : St} {v : V} {H : Hp} {Q : St → Hp → Prop} (q : Q (a0 :: a1 :: a2 :: a3 :: a4 :: a5 :: a6 :: a7 :: a8 :: a9 :: a10 :: a11 :: a12 :: a13 :: a14 :: a15 :: a16 :: a17 :: a18 :: a19 :: a20 :: a21 :: a22 :: some v :: r) H) : gName 23 v (a0 :: a1 :: a2 :: a3 :: a4 :: a5 :: a6 :: a7 :: a8 :: a9 :: a10 :: a11 :: a12 :: a13 :: a14 :: a15 :: a16 :: a17 :: a18 :: a19 :: a20 :: a21 :: a22 :: a23 :: r) H Q := q
theorem g_n24 {a0 a1 a2 a3 a4 a5 a6 a7 a8 a9 a10 a11 a12 a13 a14 a15 a16 a17 a18 a19 a20 a21 a22 a23 a24 : Option V} {r : St} {v : V} {H : Hp} {Q : St → Hp → Prop} (q : Q (a0 :: a1 :: a2 :: a3 :: a4 :: a5 :: a6 :: a7 :: a8 :: a9 :: a10 :: a11 :: a12 :: a13 :: a14 :: a15 :: a16 :: a17 :: a18 :: a19 :: a20 :: a21 :: a22 :: a23 :: some v :: r) H) : gName 24 v (a0 :: a1 :: a2 :: a3 :: a4 :: a5 :: a6 :: a7 :: a8 :: a9 :: a10 :: a11 :: a12 :: a13 :: a14 :: a15 :: a16 :: a17 :: a18 :: a19 :: a20 :: a21 :: a22 :: a23 :: a24 :: r) H Q := q
theorem g_n25 {a0 a1 a2 a3 a4 a5 a6 a7 a8 a9 a10 a11 a12 a13 a14 a15 a16 a17 a18 a19 a20 a21 a22 a23 a24 a25 : Option V} {r : St} {v : V} {H : Hp} {Q : St → Hp → Prop} (q : Q (a0 :: a1 :: a2 :: a3 :: a4 :: a5 :: a6 :: a7 :: a8 :: a9 :: a10 :: a11 :: a12 :: a13 :: a14 :: a15 :: a16 :: a17 :: a18 :: a19 :: a20 :: a21 :: a22 :: a23 :: a24 :: some v :: r) H) : gName 25 v (a0 :: a1 :: a2 :: a3 :: a4 :: a5 :: a6 :: a7 :: a8 :: a9 :: a10 :: a11 :: a12 :: a13 :: a14 :: a15 :: a16 :: a17 :: a18 :: a19 :: a20 :: a21 :: a22 :: a23 :: a24 :: a25 :: r) H Q := q
/-! ### unions of rules, so that a term asks no types -/
def rOr (r r' : R2) : R2 := fun x y H Q => r x y H Q ∨ r' x y H Q
theorem op_or {X : Cx} {f : Value → Value → Sem Value} {r r' : R2} (h : OpR X f r) (h' : OpR X f r') : OpR X f (rOr r r') :=
  fun pins s σ H x y v u Q I rx ry q => q.elim (fun q => h pins s σ H x y v u Q I rx ry q) (fun q => h' pins s σ H x y v u Q I rx ry q)
def cOr (r r' : List V → Hp → VK → Prop) : List V → Hp → VK → Prop := fun xs H Q => r xs H Q ∨ r' xs H Q
theorem call_or {X : Cx} {f : Value} {r r' : List V → Hp → VK → Prop} (h : CallR X f r) (h' : CallR X f r') : CallR X f (cOr r r') :=
  fun pins s σ H xs us Q I rs q => q.elim (fun q => h pins s σ H xs us Q I rs q) (fun q => h' pins s σ H xs us Q I rs q)
def iOr (w w' : TI) : TI := fun σ H R => w σ H R ∨ w' σ H R
theorem pi_or {X : Cx} {tg iter : Expr} {w w' : TI} (h : PI X tg iter w) (h' : PI X tg iter w') : PI X tg iter (iOr w w') :=
  ⟨fun pins s σ H R I q => q.elim (fun q => h.run pins s σ H R I q) (fun q => h'.run pins s σ H R I q)⟩
def slOr (r r' : V → Option Int → Option Int → Hp → VK → Prop) : V → Option Int → Option Int → Hp → VK → Prop := fun x l u H Q => r x l u H Q ∨ r' x l u H Q
theorem sl_or {X : Cx} {r r' : V → Option Int → Option Int → Hp → VK → Prop} (h : SlR X r) (h' : SlR X r') : SlR X (slOr r r') := by
  intro pins s σ H x v vl vu lo hi sl Q I rx hs pl pu q
  rcases q with q | q
  · exact h pins s σ H x v vl vu lo hi sl Q I rx hs pl pu q
  · exact h' pins s σ H x v vl vu lo hi sl Q I rx hs pl pu q
/-- t * k, t a tuple is elsewhere; + of ints, lists, tuples, texts -/
def rAddS : R2 := fun x y H Q => ∃ i j, x = .str i ∧ y = .str j ∧ i.length + j.length ≤ sizeLine ∧ Q (.str (i ++ j)) H
def rAddU (K : PySem.W.Frag) : R2 := rOr (rI0 fun i j => .int (i + j)) (rOr rCat (rOr (rCatA K) rAddS))
theorem op_addU {X : Cx} : OpR X (binaryOp .Add) (rAddU X.K) := op_or op_add (op_or op_cat (op_or op_catA op_add_str))
def rMulU : R2 := rOr (rI CMul fun i j => .int (i * j)) rRep
theorem op_mulU {X : Cx} : OpR X (binaryOp .Mult) rMulU := op_or op_mul op_rep
def rEqU (K : PySem.W.Frag) : R2 := rOr rEq (rEqD K)
def rNeU (K : PySem.W.Frag) : R2 := rOr rNe (rNeD K)
theorem op_eqU {X : Cx} (hu : X.A.units + 64 < cLine) : OpR X (compareOp .Eq) (rEqU X.K) := op_or op_eq (op_eqD hu)
theorem op_neU {X : Cx} (hu : X.A.units + 64 < cLine) : OpR X (compareOp .NotEq) (rNeU X.K) := op_or op_ne (op_neD hu)
def iSeq (K : PySem.W.Frag) (t : TE) : TI := iOr (iList K t) (iTup K t)
theorem pi_seq {X : Cx} {tg l : Expr} {tl : TE} (hl : PE X l tl) : PI X tg l (iSeq X.K tl) := pi_or (pi_list hl) (pi_tup hl)
def rSlU (K : PySem.W.Frag) : V → Option Int → Option Int → Hp → VK → Prop := slOr (rSlL K) (rSlA K)
theorem sl_U {X : Cx} : SlR X (rSlU X.K) := sl_or sl_list sl_tupA

def rLenU (K : PySem.W.Frag) : List V → Hp → VK → Prop := fun xs H Q => ∃ x n, xs = [x] ∧ LenV K x H n ∧ Q (.int n) H
theorem call_lenU {X : Cx} : CallR X (.builtin "len") (rLenU X.K) := call_len
def rIntU : List V → Hp → VK → Prop := fun xs H Q => (∃ i, xs = [.int i] ∧ Q (.int i) H) ∨ ∃ k, xs = [.bl k] ∧ Q (.int (if k then 1 else 0)) H
theorem call_intU {X : Cx} : CallR X (.type "int") rIntU := call_int1
def rListU (K : PySem.W.Frag) : List V → Hp → VK → Prop := fun xs H Q => ∃ p ys, xs = [.ref p] ∧ (SqL K H p ys ∨ SqT K H p ys) ∧ ∀ l, H l = none → Q (.ref l) (upd H l (.lst ys))
theorem call_listU {X : Cx} : CallR X (.type "list") (rListU X.K) := call_list_of
def rTupU (K : PySem.W.Frag) : List V → Hp → VK → Prop := fun xs H Q => ∃ p ys, xs = [.ref p] ∧ ((SqL K H p ys ∧ ∀ l, H l = none → Q (.ref l) (upd H l (.tup ys))) ∨ (SqT K H p ys ∧ Q (.ref p) H))
theorem call_tupU {X : Cx} : CallR X (.type "tuple") (rTupU X.K) := call_tuple_of
def rMaxU : List V → Hp → VK → Prop := fun xs H Q => ∃ i j, xs = [.int i, .int j] ∧ Q (.int (if j > i then j else i)) H
theorem call_maxU {X : Cx} (hc : X.calm = true) : CallR X (.builtin "max") rMaxU := call_max2 hc
def rMinU : List V → Hp → VK → Prop := fun xs H Q => ∃ i j, xs = [.int i, .int j] ∧ Q (.int (if j < i then j else i)) H
theorem call_minU {X : Cx} (hc : X.calm = true) : CallR X (.builtin "min") rMinU := call_min2 hc

/-- a new tuple, a new list of the items -/
def mkT (Q : VK) : List V → Hp → Prop := fun xs H1 => xs.length ≤ sizeLine ∧ ∀ p, H1 p = none → Q (.ref p) (upd H1 p (.tup xs))
def mkL (Q : VK) : List V → Hp → Prop := fun xs H1 => xs.length ≤ sizeLine ∧ ∀ p, H1 p = none → Q (.ref p) (upd H1 p (.lst xs))
/-- a new object of a class: its __init__'s promise, then the object -/
def mkO (C : Addr) (sp : Sp) (E : XK) (Q : VK) : List V → Hp → Prop := fun vs H1 => ∀ x dx, H1 x = none → H1 dx = none → dx ≠ x → sp (.ref x :: vs) (upd (upd H1 dx (.own x)) x (.ins C dx [])) (fun v H2 => v = .non ∧ Q (.ref x) H2) E
/-! ### steps -/
section
variable {K : PySem.W.Frag} {σ : St} {H : Hp} {D : Ends} {Q : VK} {QB : Bool → Hp → Prop} {QA : List V → Hp → Prop} {t u : TS} {ta tb te tc : TE} {tt tu : TT} {tr : TA} {g : TG}
theorem s_nx {f : St → Hp → Prop} {r : VK} {b c : St → Hp → Prop} (q : f σ H) : Ends.nx ⟨f, r, b, c⟩ σ H := q
theorem s_rt {f : St → Hp → Prop} {r : VK} {b c : St → Hp → Prop} {v : V} (q : r v H) : Ends.rt ⟨f, r, b, c⟩ v H := q
theorem s_bk {f : St → Hp → Prop} {r : VK} {b c : St → Hp → Prop} (q : b σ H) : Ends.bk ⟨f, r, b, c⟩ σ H := q
theorem s_ct {f : St → Hp → Prop} {r : VK} {b c : St → Hp → Prop} (q : c σ H) : Ends.ct ⟨f, r, b, c⟩ σ H := q
theorem nxs {σ' : St} (e : σ = σ') (q : D.nx σ' H) : D.nx σ H := by
  rw [e]
  exact q
theorem e_cut (P : VK) (h : ∀ R : VK, (∀ v H', P v H' → R v H') → te σ H R) (q : ∀ v H', P v H' → Q v H') : te σ H Q := h Q q
theorem s_par {i j : Nat} (q : tr σ H fun vs H1 => ∃ v w, vs = [v, w] ∧ D.nx ((σ.set i (some v)).set j (some w)) H1) : tPar i j tr D σ H := q
theorem ty_l {T : String} {p : Addr} {xs : List V} (e : T = "list") (h : H p = some (.lst xs)) : tyV K T (.ref p) H := .inl ⟨e, _, .inl (.inl h)⟩
theorem s_seq (q : t { D with nx := u D } σ H) : tSeq t u D σ H := q
theorem s_next (q : D.nx σ H) : tNext D σ H := q
theorem s_asg (q : te σ H fun x H1 => g x σ H1 D.nx) : tAsg te g D σ H := q
theorem s_exp (q : te σ H fun _ H1 => D.nx σ H1) : tDrop te D σ H := q
theorem s_ret (q : te σ H D.rt) : tRet te D σ H := q
theorem s_if (q : tt σ H fun b H1 => if b = true then t D σ H1 else u D σ H1) : tIfS tt t u D σ H := q
theorem s_brk (q : D.bk σ H) : tBreak D σ H := q
theorem s_cnt (q : D.ct σ H) : tCont D σ H := q
theorem e_c {v : V} (q : Q v H) : tC v σ H Q := q
theorem e_op {r : R2} (q : ta σ H fun x H1 => tb σ H1 fun y H2 => r x y H2 Q) : tOp r ta tb σ H Q := q
theorem e_un {r : V → Hp → VK → Prop} (q : ta σ H fun x H1 => r x H1 Q) : tUn r ta σ H Q := q
theorem e_test (q : te σ H fun x H' => ∃ k, x = .bl k ∧ QB k H') : tTest te σ H QB := q
theorem e_tB (q : te σ H fun x H' => ∃ k, x = .bl k ∧ QB k H') : tB te σ H QB := q
theorem e_and (q : tt σ H fun c H1 => if c = true then tu σ H1 QB else QB false H1) : tAnd tt tu σ H QB := q
theorem e_or (q : tt σ H fun c H1 => if c = true then QB true H1 else tu σ H1 QB) : tOr tt tu σ H QB := q
theorem e_not (q : tt σ H fun c H1 => QB (!c) H1) : tNot tt σ H QB := q
theorem e_andV (q : ta σ H fun x H1 => ∃ c, x = .bl c ∧ if c = true then tb σ H1 Q else Q (.bl false) H1) : tAndV ta tb σ H Q := q
theorem e_orV (q : ta σ H fun x H1 => ∃ c, x = .bl c ∧ if c = true then Q (.bl true) H1 else tb σ H1 Q) : tOrV ta tb σ H Q := q
theorem e_notV (q : ta σ H fun x H1 => ∃ c, x = .bl c ∧ Q (.bl (!c)) H1) : tNotV ta σ H Q := q
theorem e_ife (q : tt σ H fun c H1 => if c = true then ta σ H1 Q else tb σ H1 Q) : tIf tt ta tb σ H Q := q
theorem e_chain {r r' : R2} (q : ta σ H fun x H1 => tb σ H1 fun y H2 => r x y H2 fun z H3 => ∃ k, z = .bl k ∧ (if k = true then tc σ H3 fun w' H4 => r' y w' H4 Q else Q (.bl false) H3)) : tChain r r' ta tb tc σ H Q := q
theorem e_tup (q : tr σ H (mkT Q)) : tTup tr σ H Q := q
theorem e_lst (q : tr σ H (mkL Q)) : tLst tr σ H Q := q
theorem a_nil (q : QA [] H) : tNil σ H QA := q
theorem a_cons {tr : TA} (q : te σ H fun x H1 => tr σ H1 fun xs H2 => QA (x :: xs) H2) : tCons te tr σ H QA := q
theorem e_cb {r : List V → Hp → VK → Prop} (q : tr σ H fun vs H1 => r vs H1 Q) : tCB r tr σ H Q := q
theorem e_call {sp : Sp} {E : XK} (q : tr σ H fun vs H1 => sp vs H1 Q E) : tCall sp [] E tr σ H Q := by
  show tr σ H fun vs H1 => sp (vs ++ []) H1 Q E
  have e : (fun vs H1 => sp (vs ++ []) H1 Q E) = fun vs H1 => sp vs H1 Q E := by
    funext vs H1
    rw [List.append_nil]
  rw [e]
  exact q
theorem e_make {C : Addr} {sp : Sp} {E : XK} (q : tr σ H (mkO C sp E Q)) : tMake C sp [] E tr σ H Q := by
  have e : (fun vs H1 => ∀ x dx, H1 x = none → H1 dx = none → dx ≠ x → sp (.ref x :: (vs ++ [])) (upd (upd H1 dx (.own x)) x (.ins C dx [])) (fun v H2 => v = .non ∧ Q (.ref x) H2) E) = mkO C sp E Q := by
    funext vs H1
    rw [List.append_nil]
    rfl
  show tr σ H (fun vs H1 => ∀ x dx, H1 x = none → H1 dx = none → dx ≠ x → sp (.ref x :: (vs ++ [])) (upd (upd H1 dx (.own x)) x (.ins C dx [])) (fun v H2 => v = .non ∧ Q (.ref x) H2) E)
  rw [e]
  exact q
theorem e_prop {C : Addr} {sp : Sp} {E : XK} (q : te σ H fun x H1 => ∃ a dx fs, x = .ref a ∧ H1 a = some (.ins C dx fs) ∧ sp [.ref a] H1 Q E) : tProp C sp [] E te σ H Q := q
theorem e_meth {C : Addr} {m : Str} {sp : Sp} {E : XK} (q : te σ H fun x H1 => ∃ a dx fs, x = .ref a ∧ H1 a = some (.ins C dx fs) ∧ fs.lookup m = none ∧ tr σ H1 fun vs H2 => sp (x :: (vs ++ [])) H2 Q E) : tMeth C m sp [] E te tr σ H Q := q
theorem e_bm {T : String} {r : V → List V → Hp → VK → Prop} (q : te σ H fun x H1 => tyV K T x H1 ∧ tr σ H1 fun xs H2 => r x xs H2 Q) : tBM K T r te tr σ H Q := q
theorem e_bm0 {T : String} {r : V → List V → Hp → VK → Prop} (q : te σ H fun x H1 => tyV K T x H1 ∧ r x [] H1 Q) : tBM0 K T r te σ H Q := q
theorem e_sl {r : V → Option Int → Option Int → Hp → VK → Prop} {tl th : TO} (q : te σ H fun x H1 => tl σ H1 fun l H2 => th σ H2 fun u H3 => r x l u H3 Q) : tSl r te tl th σ H Q := q
theorem o_none {QO : Option Int → Hp → Prop} (q : QO none H) : tNoPart σ H QO := q
theorem o_some {QO : Option Int → Hp → Prop} (q : te σ H fun x H1 => ∃ i, x = .int i ∧ QO (some i) H1) : tPart te σ H QO := q
theorem f_for {wi : TI} {tb : TS} (q : wi σ H fun J H1 => ∃ W : Nat → Nat → St → Hp → Prop, (∃ m, W 0 m σ H1) ∧ ∀ i m σ H, W i m σ H →
  (J.stop i H ∧ D.nx σ H) ∨ (J.go i H ∧ ∃ N : St → Hp → Prop, (∀ σ' H', N σ' H' → ∃ m', m' < m ∧ W (i + 1) m' σ' H') ∧ ∀ x H', J.yld i H x H' → g x σ H' fun σ2 H2 => tb { D with nx := N, ct := N, bk := D.nx } σ2 H2)) : tFor wi g tb D σ H := q
theorem ex_bl {b : Bool} {P : Bool → Prop} (q : P b) : ∃ k, V.bl b = .bl k ∧ P k := ⟨b, rfl, q⟩
theorem ex_int {i : Int} {P : Int → Prop} (q : P i) : ∃ k, V.int i = .int k ∧ P k := ⟨i, rfl, q⟩
theorem i_t {A B : Prop} (h : A) : if true = true then A else B := iteT h
theorem i_f {A B : Prop} (h : B) : if false = true then A else B := iteF h
theorem i_nt {A B : Prop} (h : B) : if (!true) = true then A else B := iteF h
theorem i_nf {A B : Prop} (h : A) : if (!false) = true then A else B := iteT h
theorem i_d {c : Prop} [Decidable c] {A B : Prop} (h1 : c → A) (h2 : ¬ c → B) : if decide c = true then A else B := by
  by_cases h : c
  · rw [decide_eq_true h]
    exact iteT (h1 h)
  · rw [decide_eq_false h]
    exact iteF (h2 h)
theorem i_nd {c : Prop} [Decidable c] {A B : Prop} (h1 : ¬ c → A) (h2 : c → B) : if (!decide c) = true then A else B := by
  by_cases h : c
  · rw [decide_eq_true h]
    exact iteF (h2 h)
  · rw [decide_eq_false h]
    exact iteT (h1 h)
theorem i_dT {c : Prop} [Decidable c] {A B : Prop} (h : c) (q : A) : if decide c = true then A else B := by
  rw [decide_eq_true h]
  exact iteT q
theorem i_dF {c : Prop} [Decidable c] {A B : Prop} (h : ¬ c) (q : B) : if decide c = true then A else B := by
  rw [decide_eq_false h]
  exact iteF q
theorem i_b {b : Bool} {A B : Prop} (h1 : b = true → A) (h2 : b = false → B) : if b = true then A else B := by
  cases b with
  | true => exact iteT (h1 rfl)
  | false => exact iteF (h2 rfl)
/-! what a for and a comprehension walk -/
section
variable {ws : List Nat} {tb : TS} {tl : TE}
theorem e_lcT (q : tl σ H fun x H1 => ∃ a, x = .ref a ∧ (∃ xs, SqT K H1 a xs) ∧ ∀ D, H1 D = none → ∃ W : Nat → Nat → Hp → Prop, (∃ m, W 0 m (upd H1 D (.lst []))) ∧ ∀ i m H, W i m H →
  ((Itt K a).stop i H ∧ Q (.ref D) H) ∨ ((Itt K a).go i H ∧ ∃ Nx : Hp → Prop, (∀ H', Nx H' → ∃ m', m' < m ∧ W (i + 1) m' H') ∧ ∀ x H', (Itt K a).yld i H x H' → g x (wipe σ ws) H' fun σ2 H2 => wipe σ2 ws = wipe σ ws ∧ tt σ2 H2 fun b H3 =>
    if b = true then te σ2 H3 fun y H4 => ∃ acc, H4 D = some (.lst acc) ∧ acc.length < sizeLine ∧ Nx (upd H4 D (.lst (acc ++ [y]))) else Nx H3)) : tLc (iSeq K tl) g tt te ws σ H Q := .inr q
theorem f_forT (q : tl σ H fun x H1 => ∃ a, x = .ref a ∧ (∃ xs, SqT K H1 a xs) ∧ ∃ W : Nat → Nat → St → Hp → Prop, (∃ m, W 0 m σ H1) ∧ ∀ i m σ H, W i m σ H →
  ((Itt K a).stop i H ∧ D.nx σ H) ∨ ((Itt K a).go i H ∧ ∃ N : St → Hp → Prop, (∀ σ' H', N σ' H' → ∃ m', m' < m ∧ W (i + 1) m' σ' H') ∧ ∀ x H', (Itt K a).yld i H x H' → g x σ H' fun σ2 H2 => tb { D with nx := N, ct := N, bk := D.nx } σ2 H2)) : tFor (iSeq K tl) g tb D σ H := .inr q
theorem e_lcL (q : tl σ H fun x H1 => ∃ a, x = .ref a ∧ (∃ xs, SqL K H1 a xs) ∧ ∀ D, H1 D = none → ∃ W : Nat → Nat → Hp → Prop, (∃ m, W 0 m (upd H1 D (.lst []))) ∧ ∀ i m H, W i m H →
  ((Itl K a).stop i H ∧ Q (.ref D) H) ∨ ((Itl K a).go i H ∧ ∃ Nx : Hp → Prop, (∀ H', Nx H' → ∃ m', m' < m ∧ W (i + 1) m' H') ∧ ∀ x H', (Itl K a).yld i H x H' → g x (wipe σ ws) H' fun σ2 H2 => wipe σ2 ws = wipe σ ws ∧ tt σ2 H2 fun b H3 =>
    if b = true then te σ2 H3 fun y H4 => ∃ acc, H4 D = some (.lst acc) ∧ acc.length < sizeLine ∧ Nx (upd H4 D (.lst (acc ++ [y]))) else Nx H3)) : tLc (iSeq K tl) g tt te ws σ H Q := .inl q
theorem f_forL (q : tl σ H fun x H1 => ∃ a, x = .ref a ∧ (∃ xs, SqL K H1 a xs) ∧ ∃ W : Nat → Nat → St → Hp → Prop, (∃ m, W 0 m σ H1) ∧ ∀ i m σ H, W i m σ H →
  ((Itl K a).stop i H ∧ D.nx σ H) ∨ ((Itl K a).go i H ∧ ∃ N : St → Hp → Prop, (∀ σ' H', N σ' H' → ∃ m', m' < m ∧ W (i + 1) m' σ' H') ∧ ∀ x H', (Itl K a).yld i H x H' → g x σ H' fun σ2 H2 => tb { D with nx := N, ct := N, bk := D.nx } σ2 H2)) : tFor (iSeq K tl) g tb D σ H := .inl q
theorem e_lcR (q : tr σ H fun vs H1 => ∃ j : Int, vs = [.int j] ∧ -(2 ^ 62) ≤ j ∧ j < 2 ^ 62 ∧ ∀ D, H1 D = none → ∃ W : Nat → Nat → Hp → Prop, (∃ m, W 0 m (upd H1 D (.lst []))) ∧ ∀ i m H, W i m H →
  ((Itr 0 j.toNat).stop i H ∧ Q (.ref D) H) ∨ ((Itr 0 j.toNat).go i H ∧ ∃ Nx : Hp → Prop, (∀ H', Nx H' → ∃ m', m' < m ∧ W (i + 1) m' H') ∧ ∀ x H', (Itr 0 j.toNat).yld i H x H' → g x (wipe σ ws) H' fun σ2 H2 => wipe σ2 ws = wipe σ ws ∧ tt σ2 H2 fun b H3 =>
    if b = true then te σ2 H3 fun y H4 => ∃ acc, H4 D = some (.lst acc) ∧ acc.length < sizeLine ∧ Nx (upd H4 D (.lst (acc ++ [y]))) else Nx H3)) : tLc (iRng1 tr) g tt te ws σ H Q := q
theorem f_forR (q : tr σ H fun vs H1 => ∃ j : Int, vs = [.int j] ∧ -(2 ^ 62) ≤ j ∧ j < 2 ^ 62 ∧ ∃ W : Nat → Nat → St → Hp → Prop, (∃ m, W 0 m σ H1) ∧ ∀ i m σ H, W i m σ H →
  ((Itr 0 j.toNat).stop i H ∧ D.nx σ H) ∨ ((Itr 0 j.toNat).go i H ∧ ∃ N : St → Hp → Prop, (∀ σ' H', N σ' H' → ∃ m', m' < m ∧ W (i + 1) m' σ' H') ∧ ∀ x H', (Itr 0 j.toNat).yld i H x H' → g x σ H' fun σ2 H2 => tb { D with nx := N, ct := N, bk := D.nx } σ2 H2)) : tFor (iRng1 tr) g tb D σ H := q
end
theorem g_pair {p : Addr} {x y : V} {i j : Nat} {σ' : St} {QS : St → Hp → Prop} (h : SqT K H p [x, y]) (e : (σ.set i (some x)).set j (some y) = σ') (q : QS σ' H) : gTup K 2 (gCons (gName i) (gCons (gName j) gNil)) (.ref p) σ H QS := by
  refine ⟨p, [x, y], rfl, h, rfl, x, [y], rfl, y, [], rfl, rfl, ?_⟩
  rw [e]
  exact q
/-! values -/
theorem add_i {i j : Int} (q : Q (.int (i + j)) H) : rAddU K (.int i) (.int j) H Q := .inl ⟨i, j, rfl, rfl, q⟩
theorem r_i0 {g : Int → Int → V} {i j : Int} (q : Q (g i j) H) : rI0 g (.int i) (.int j) H Q := ⟨i, j, rfl, rfl, q⟩
theorem r_ic {C : Int → Int → Prop} {g : Int → Int → V} {i j : Int} (c : C i j) (q : Q (g i j) H) : rI C g (.int i) (.int j) H Q := ⟨i, j, rfl, rfl, c, q⟩
theorem mul_i {i j : Int} (c : CMul i j) (q : Q (.int (i * j)) H) : rMulU (.int i) (.int j) H Q := .inl ⟨i, j, rfl, rfl, c, q⟩
theorem mod_c {i j : Int} (h : j ≠ 0) (q : Q (.int (i.fmod j)) H) : rI (fun _ j => j ≠ 0) (fun i j => .int (i.fmod j)) (.int i) (.int j) H Q := ⟨i, j, rfl, rfl, h, q⟩
theorem fdv_c {i j : Int} (h : CDivN i j) (q : Q (.int (i.fdiv j)) H) : rI CDivN (fun i j => .int (i.fdiv j)) (.int i) (.int j) H Q := ⟨i, j, rfl, rfl, h, q⟩
theorem cmul_l {i j : Int} (h0 : 0 ≤ i) (h1 : i < 2147483648) : CMul i j := .inl ⟨by omega, by omega⟩
theorem cmul_r {i j : Int} (h0 : 0 ≤ j) (h1 : j < 2147483648) : CMul i j := .inr ⟨by omega, by omega⟩
theorem g_sub {to ti : TE} {t : TSet} {v : V} {QS : St → Hp → Prop} (q : to σ H fun o H1 => ti σ H1 fun i H2 => t o i v H2 fun H3 => QS σ H3) : gSub to ti t v σ H QS := q
theorem set_l {p : Addr} {xs : List V} {k : Int} {v : V} {QH : Hp → Prop} (hp : H p = some (.lst xs)) (h0 : 0 ≤ k) (h1 : k < (xs.length : Int)) (q : QH (upd H p (.lst (xs.set k.toNat v)))) : rSetL (.ref p) (.int k) v H QH :=
  ⟨p, xs, k, k.toNat, rfl, rfl, hp, by
    unfold ixN
    rw [if_pos h0, if_pos h1], q⟩
theorem eq_i {i j : Int} (q : Q (.bl (decide (i = j))) H) : rEqU K (.int i) (.int j) H Q := by
  refine .inl ⟨rfl, ?_⟩
  have e : decide (V.int i = V.int j) = decide (i = j) := by
    by_cases h : i = j
    · rw [decide_eq_true h, decide_eq_true (by rw [h])]
    · rw [decide_eq_false h, decide_eq_false fun z => h (V.int.inj z)]
  rw [e]
  exact q
theorem ne_i {i j : Int} (q : Q (.bl (!decide (i = j))) H) : rNeU K (.int i) (.int j) H Q := by
  refine .inl ⟨rfl, ?_⟩
  have e : decide (V.int i = V.int j) = decide (i = j) := by
    by_cases h : i = j
    · rw [decide_eq_true h, decide_eq_true (by rw [h])]
    · rw [decide_eq_false h, decide_eq_false fun z => h (V.int.inj z)]
  rw [e]
  exact q
theorem eq_b {a b : Bool} (q : Q (.bl (a == b)) H) : rEqU K (.bl a) (.bl b) H Q := by
  refine .inl ⟨rfl, ?_⟩
  have e : decide (V.bl a = V.bl b) = (a == b) := by cases a <;> cases b <;> rfl
  rw [e]
  exact q
theorem eq_tt (q : Q (.bl true) H) : rEqU K (.bl true) (.bl true) H Q := eq_b q
theorem eq_ff (q : Q (.bl true) H) : rEqU K (.bl false) (.bl false) H Q := eq_b q
theorem eq_tf (q : Q (.bl false) H) : rEqU K (.bl true) (.bl false) H Q := eq_b q
theorem eq_ft (q : Q (.bl false) H) : rEqU K (.bl false) (.bl true) H Q := eq_b q
theorem ne_tt (q : Q (.bl false) H) : rNeU K (.bl true) (.bl true) H Q := .inl ⟨rfl, q⟩
theorem ne_ff (q : Q (.bl false) H) : rNeU K (.bl false) (.bl false) H Q := .inl ⟨rfl, q⟩
theorem ne_tf (q : Q (.bl true) H) : rNeU K (.bl true) (.bl false) H Q := .inl ⟨rfl, q⟩
theorem ne_ft (q : Q (.bl true) H) : rNeU K (.bl false) (.bl true) H Q := .inl ⟨rfl, q⟩
theorem ne_b {a b : Bool} (q : Q (.bl (!(a == b))) H) : rNeU K (.bl a) (.bl b) H Q := by
  refine .inl ⟨rfl, ?_⟩
  have e : decide (V.bl a = V.bl b) = (a == b) := by cases a <;> cases b <;> rfl
  rw [e]
  exact q
theorem eq_s {x y : V} (h : scal x y = true) (q : Q (.bl (decide (x = y))) H) : rEqU K x y H Q := .inl ⟨h, q⟩
theorem ix_t {p : Addr} {xs : List V} {i : Int} {v : V} (h : SqT K H p xs) (ha : atI xs i = some v) (q : Q v H) : rIx K (.ref p) (.int i) H Q := .inr (.inl ⟨p, xs, i, v, rfl, rfl, h, ha, q⟩)
theorem ix_l {p : Addr} {xs : List V} {i : Int} {v : V} (h : SqL K H p xs) (ha : atI xs i = some v) (q : Q v H) : rIx K (.ref p) (.int i) H Q := .inl ⟨p, xs, i, v, rfl, rfl, h, ha, q⟩
theorem len_t {p : Addr} {xs : List V} (h : SqT K H p xs) (q : Q (.int xs.length) H) : rLenU K [.ref p] H Q := ⟨_, _, rfl, .inr ⟨_, h, rfl⟩, q⟩
theorem len_l {p : Addr} {xs : List V} (h : SqL K H p xs) (q : Q (.int xs.length) H) : rLenU K [.ref p] H Q := ⟨_, _, rfl, .inl ⟨_, h, rfl⟩, q⟩
theorem int_i {i : Int} (q : Q (.int i) H) : rIntU [.int i] H Q := .inl ⟨i, rfl, q⟩
theorem max_i {i j : Int} (q : Q (.int (if j > i then j else i)) H) : rMaxU [.int i, .int j] H Q := ⟨i, j, rfl, q⟩
theorem min_i {i j : Int} (q : Q (.int (if j < i then j else i)) H) : rMinU [.int i, .int j] H Q := ⟨i, j, rfl, q⟩
theorem tup_t {p : Addr} {xs : List V} (h : SqT K H p xs) (q : Q (.ref p) H) : rTupU K [.ref p] H Q := ⟨p, xs, rfl, .inr ⟨h, q⟩⟩
theorem tup_l {p : Addr} {xs : List V} (h : SqL K H p xs) (q : ∀ l H', H l = none → Same H H' → H' l = some (.tup xs) → (∀ b, b ≠ l → H' b = H b) → Q (.ref l) H') : rTupU K [.ref p] H Q :=
  ⟨p, xs, rfl, .inl ⟨h, fun l hl => q l _ hl (fun b o e => by
    rw [upd_ne (ne_of_none e hl)]
    exact e) upd_same fun _ hb => upd_ne hb⟩⟩
theorem list_s {p : Addr} {xs : List V} (h : SqL K H p xs ∨ SqT K H p xs) (q : ∀ l H', H l = none → Same H H' → H' l = some (.lst xs) → (∀ b, b ≠ l → H' b = H b) → Q (.ref l) H') : rListU K [.ref p] H Q :=
  ⟨p, xs, rfl, h, fun l hl => q l _ hl (fun b o e => by
    rw [upd_ne (ne_of_none e hl)]
    exact e) upd_same fun _ hb => upd_ne hb⟩
theorem app_l {p : Addr} {xs : List V} {y : V} (hp : H p = some (.lst xs)) (hl : xs.length < 1000) (q : Q .non (upd H p (.lst (xs ++ [y])))) : rAppend (.ref p) [y] H Q :=
  ⟨p, xs, y, rfl, rfl, hp, small1000 (Nat.le_of_lt hl), q⟩
theorem isi {x : V} {a b : String} {r : Bool} (h : TyX K H x (.type a)) (k : kitB a b = some r) (q : Q (.bl r) H) : rIsi K [x, .ty b] H Q :=
  ⟨x, .ty b, _, _, r, rfl, .ty b, h, kit_ty k, q⟩
theorem isi2 {x : V} {tp : Addr} {a b c : String} {r1 r2 : Bool} (hT : H tp = some (.tup [.ty b, .ty c])) (h : TyX K H x (.type a)) (k1 : kitB a b = some r1) (k2 : kitB a c = some r2) (q : Q (.bl (r1 || r2)) H) : rIsiT K [x, .ref tp] H Q :=
  ⟨x, tp, _, _, [.type b, .type c], r1 || r2, rfl, hT, .cons (.ty b) (.cons (.ty c) .nil), h,
    kitAny_cons (kit_ty k1) (fun e => by
      subst e
      exact kitAny_cons (kit_ty k2) (fun e => by
        subst e
        exact kitAny_nil) (fun e => by
        subst e
        rfl)) (fun e => by
      subst e
      rfl), q⟩
end

/-! ### heaps -/
theorem sz1000 {n : Nat} (h : n ≤ 1000) : n ≤ sizeLine := Nat.le_trans h (by decide)
/-- all but some addresses stands as it stood -/
def But (S : List Addr) (H H' : Hp) : Prop := ∀ b o, H b = some o → b ∉ S → H' b = some o
/-- all but lists stands as it stood -/
def NL (H H' : Hp) : Prop := ∀ b o, H b = some o → (∀ xs, o ≠ .lst xs) → H' b = some o
section
variable {K : PySem.W.Frag} {H H1 H2 H' : Hp} {a p : Addr} {xs : List V} {o : HO} {S : List Addr}
theorem same_upd (h : H p = none) : Same H (upd H p o) := fun b x e => by
  rw [upd_ne (ne_of_none e h)]
  exact e
theorem _root_.L2.Same.t (e : Same H H') (h : SqT K H a xs) : SqT K H' a xs := by
  rcases h with (h | ⟨o, h⟩) | h
  · exact .inl (.inl (e _ _ h))
  · exact .inl (.inr ⟨o, e _ _ h⟩)
  · exact .inr h
theorem _root_.L2.Same.nl (e : Same H H') : NL H H' := fun b o h _ => e b o h
theorem NL.refl (H : Hp) : NL H H := fun _ _ h _ => h
theorem NL.trans (e : NL H H1) (e2 : NL H1 H2) : NL H H2 := fun b o h n => e2 b o (e b o h n) n
theorem NL.t (e : NL H H') (h : SqT K H a xs) : SqT K H' a xs := by
  rcases h with (h | ⟨o, h⟩) | h
  · exact .inl (.inl (e _ _ h fun _ z => nomatch z))
  · exact .inl (.inr ⟨o, e _ _ h fun _ z => nomatch z⟩)
  · exact .inr h
theorem NL.ins {C dx : Addr} {fs : List (Str × V)} (e : NL H H') (h : H a = some (.ins C dx fs)) : H' a = some (.ins C dx fs) := e _ _ h fun _ z => nomatch z
theorem But.nl (e : But S H H') (h : ∀ b ∈ S, ∃ xs, H b = some (.lst xs)) : NL H H' := fun b o q n => e b o q fun m => by
  obtain ⟨xs, z⟩ := h b m
  rw [z] at q
  exact n xs (Option.some.inj q).symm
theorem but_upd : But [p] H (upd H p o) := fun b x e n => by
  rw [upd_ne (fun z => n (by rw [z]; exact List.mem_cons_self))]
  exact e
theorem _root_.L2.Same.but (e : Same H H') : But S H H' := fun b o h _ => e b o h
theorem But.trans (e : But S H H1) (e2 : But S H1 H2) : But S H H2 := fun b o h n => e2 b o (e b o h n) n
theorem But.mono {S' : List Addr} (e : But S H H') (h : ∀ b ∈ S, b ∈ S') : But S' H H' := fun b o q n => e b o q fun m => n (h b m)
/-- what S did not know may be left out -/
theorem But.same (e : But S H H') (h : ∀ b ∈ S, H b = none) : Same H H' := fun b o q => e b o q fun m => by
  rw [h b m] at q
  cases q
theorem sqT (h : H a = some (.tup xs)) : SqT K H a xs := .inl (.inl h)
theorem sqL (h : H a = some (.lst xs)) : SqL K H a xs := .inl (.inl h)
theorem upd_lst_nl {ys : List V} (h : H p = some (.lst xs)) : NL H (upd H p (.lst ys)) := fun b o q n => by
  by_cases e : b = p
  · subst e
    rw [h] at q
    exact absurd (Option.some.inj q).symm (n xs)
  · rw [upd_ne e]
    exact q
theorem new_same {o : HO} (h : H p = none) (e : H' = upd H p o) : Same H H' ∧ H' p = some o := by
  subst e
  exact ⟨same_upd h, upd_same⟩
theorem al_t {Q : VK} (hl : xs.length ≤ sizeLine) (q : ∀ p H', H p = none → Same H H' → H' p = some (.tup xs) → (∀ b, b ≠ p → H' b = H b) → Q (.ref p) H') : mkT Q xs H :=
  ⟨hl, fun p hp => q p _ hp (same_upd hp) upd_same fun _ hb => upd_ne hb⟩
theorem al_l {Q : VK} (hl : xs.length ≤ sizeLine) (q : ∀ p H', H p = none → Same H H' → H' p = some (.lst xs) → (∀ b, b ≠ p → H' b = H b) → Q (.ref p) H') : mkL Q xs H :=
  ⟨hl, fun p hp => q p _ hp (same_upd hp) upd_same fun _ hb => upd_ne hb⟩
end
section
variable {K : PySem.W.Frag} {H : Hp} {a b : Addr} {xs ys : List V} {Q : VK}
theorem cut_whole {lo hi : Option Int} (h : HT.sIx xs.length 0 lo = 0 ∧ HT.sIx xs.length xs.length hi = xs.length) : cutV xs lo hi = xs := by
  unfold cutV
  rw [h.1, h.2, List.drop_zero, Nat.sub_zero, List.take_length]
/-- a slice of a tuple -/
theorem sl_t {lo hi : Option Int} (h : SqT K H a xs) (q : ∀ p H', Same H H' → SqT K H' p (cutV xs lo hi) → Q (.ref p) H') : rSlU K (.ref a) lo hi H Q := by
  refine .inr ⟨a, xs, rfl, h, fun w => ?_, fun _ p hp => ?_⟩
  · refine q a H (Same.refl H) ?_
    rw [cut_whole w]
    exact h
  · exact q p _ (same_upd hp) (sqT upd_same)
theorem sl_l {lo hi : Option Int} (h : SqL K H a xs) (q : ∀ p H', H p = none → Same H H' → H' p = some (.lst (cutV xs lo hi)) → Q (.ref p) H') : rSlU K (.ref a) lo hi H Q :=
  .inl ⟨a, xs, rfl, h, fun p hp => q p _ hp (same_upd hp) upd_same⟩
/-- t + u -/
theorem add_t (h : SqT K H a xs) (h2 : SqT K H b ys) (hl : xs.length + ys.length ≤ 1000) (q : ∀ p H', Same H H' → SqT K H' p (xs ++ ys) → Q (.ref p) H') : rAddU K (.ref a) (.ref b) H Q := by
  refine .inr (.inr (.inl ⟨a, b, xs, ys, rfl, rfl, h, h2, sz1000 hl, fun e => ?_, fun _ e => ?_, fun _ _ p hp => ?_⟩))
  · subst e
    exact q b H (Same.refl H) h2
  · subst e
    refine q a H (Same.refl H) ?_
    rw [List.append_nil]
    exact h
  · exact q p _ (same_upd hp) (sqT upd_same)
theorem add_l (h : H a = some (.lst xs)) (h2 : H b = some (.lst ys)) (hl : xs.length + ys.length ≤ 1000) (q : ∀ p H', H p = none → Same H H' → H' p = some (.lst (xs ++ ys)) → Q (.ref p) H') : rAddU K (.ref a) (.ref b) H Q :=
  .inr (.inl ⟨a, b, xs, ys, rfl, rfl, h, h2, sz1000 hl, fun p hp => q p _ hp (same_upd hp) upd_same⟩)
end
/-- the end of an enumerate over a tuple -/
theorem pyNext_enum_endT {prog : Program} {w : World} {A : Around} {E : Value → Shared → Prop} {s : Shared} {e it l : Addr} {i : Nat} {i' : Int} {items : Array Value} {old : Value} {Q : Option Value → Shared → Prop} (hh : A.in1.handled = none)
    (he : IsEnum s.heap e it i' old) (hit : s.heap.IsTupleIter it l i) (hl : s.heap.IsTuple l items) (hx : items[i]? = none)
    (hQ : ∀ h', Heap.ExtBut it s.heap h' → Q none { s with heap := h' }) : wpAny (model prog w) A (pyNext (.ref e)) Q E s := by
  have hT : s.TypeIs (.ref e) "enumerate" := ⟨_, he, rfl⟩
  unfold pyNext
  refine wpAny_bind (wpAny_attempt (wpAny_callSpecial?_slot (name := Str.ofString "__next__") hT F.slot_enumerate_next (wpAny_call_entry F.slot_enumerate_next hT F.entry_enumerate_next ?_ (F.args_enumerate_next_1 _))))
  show wpAny _ _ (field (.ref e) 2 >>= fun _ => _) _ _ _
  refine wpAny_bind (wpAny_field he rfl (x := .ref it) rfl ?_)
  refine wpAny_bind (wpAny_nextOf_tuple_end hh hit hl hx fun h' x he' hx' => ?_)
  obtain ⟨o, ho, hc⟩ := hx'
  refine wpAny_bind (wpAny_isInstance (T := "StopIteration") (b := true) ⟨o, ho, hc⟩ isSubtype_stop ?_)
  exact wpAny_pure (hQ _ he')
set_option maxHeartbeats 8000000 in
theorem meets_enum1 {v : Value} {o : Obj} {Hd : Heap → Prop} (B : Begins v o Hd) :
    Meets (Builtin.«enumerate.__new__» ⟨[.type "enumerate", v], []⟩) (fun _ R s => Hd s.heap ∧
      R (.ok (.ret (.ref (s.heap.push o).objs.size))) { s with heap := (s.heap.push o).push { cls := .type "enumerate", data := .fields #[.none, .bool false, .ref s.heap.objs.size, rawInt 0, .none, .none] } }) :=
  .of_wp fun prog w A R s h => by
    obtain ⟨hp, g, d, tk, os⟩ := s
    obtain ⟨h1, h⟩ := h
    have hsub := sub_enumerate
    have q1 : ∀ {A' : Around} {E : Value → Shared → Prop} {Q : Value → Shared → Prop}, Q (.ref hp.objs.size) ⟨hp.push o, g, d, tk, os⟩ → wpAny (model prog w) A' (pyIter v) Q E ⟨hp, g, d, tk, os⟩ := by
      intro A' E Q q
      exact B.iter prog w A' E ⟨hp, g, d, tk, os⟩ Q h1 q
    wp_walk using q1
    refine wpAny_stack_any fun st => wpAny_pure ?_
    split
    · rename_i c _ _ _ _ _
      cases (c == Value.type "enumerate") <;> (wp_walk using q1) <;> exact ⟨_, rfl, h⟩
    · wp_walk using q1
      exact ⟨_, rfl, h⟩
theorem enum_made {prog : Program} {w : World} {A : Around} {E : Value → Shared → Prop} {s : Shared} {v : Value} {o : Obj} {Hd : Heap → Prop} {Q : Value → Shared → Prop} (B : Begins v o Hd) (h1 : Hd s.heap)
    (h : ∀ h', IsEnum h' (s.heap.objs.size + 1) s.heap.objs.size 0 .none → h'.get? s.heap.objs.size = some o → h'.objs.size = s.heap.objs.size + 2 →
      (∀ b o, s.heap.get? b = some o → h'.get? b = some o) → Q (.ref (s.heap.objs.size + 1)) { s with heap := h' }) :
    wpAny (model prog w) A (call (.type "enumerate") [v]) Q E s := by
  refine callType_new F.called_enumerate (by decide) (F.typeCall_enumerate_1 _) (F.newCall_enumerate_1 _) (fun obj => F.args_object_init_2 obj _) F.entry_enumerate_new (meets_enum1 B) ⟨h1, ?_⟩
  have hz : (s.heap.push o).objs.size = s.heap.objs.size + 1 := Heap.size_push ..
  have he : IsEnum ((s.heap.push o).push { cls := .type "enumerate", data := .fields #[.none, .bool false, .ref s.heap.objs.size, rawInt 0, .none, .none] }) (s.heap.push o).objs.size s.heap.objs.size 0 .none := Heap.get?_push_size _ rfl
  rw [hz] at he
  rw [hz]
  refine ⟨⟨_, he, rfl⟩, h _ he (Heap.get?_push_of_some _ (Heap.get?_push_size _ B.free)) ?_ ?_⟩
  · rw [Heap.size_push, hz]
  · intro b ob x
    exact Heap.get?_push_of_some _ (Heap.get?_push_of_some _ x)
/-! ### for i, x in enumerate(t), t a tuple -/
/-- the tuple at a, each item in a new pair with its number -/
def ItEt (K : PySem.W.Frag) (a : Addr) : It where
  go i H := ∃ (xs : List V) (x : V), SqT K H a xs ∧ xs[i]? = some x
  yld i H v H' := ∃ T x, v = .ref T ∧ H T = none ∧ H' = upd H T (.tup [.int (i : Nat), x]) ∧ ∀ xs, SqT K H a xs → xs[i]? = some x
  stop i H := ∃ xs : List V, SqT K H a xs ∧ xs.length ≤ i
theorem turn_enumT {P : Program} {w : World} {K : PySem.W.Frag} {elts : List Expr} {kk : Nat} {tpos : Pos} (a e it : Addr) (hae : a ≠ e) (hai : a ≠ it) :
    Turn P w K (.Tuple elts kk tpos) (ItEt K a) [e, it] e (fun i h => (∃ old, IsEnum h e it ((i : Nat) : Int) old) ∧ h.IsTupleIter it a i ∧ e ≠ it) where
  mem := List.mem_cons_self
  obj := by
    rintro i h ⟨⟨old, he⟩, ⟨o, ho, hc, hd⟩, _⟩ b hb
    rcases List.mem_cons.mp hb with rfl | hb
    · exact ⟨_, he, by intro v q; cases q⟩
    · rw [List.mem_singleton.mp hb]
      exact ⟨o, ho, by intro v q; rw [hd] at q; cases q⟩
  keep := by
    rintro i h h' ⟨⟨old, he⟩, hi, hne⟩ k
    exact ⟨⟨old, k e List.mem_cons_self _ he⟩, hi.at fun o q => k it (List.mem_cons_of_mem _ List.mem_cons_self) o q, hne⟩
  item := by
    intro X hP hw hK hc i pins s σ H E I hf st hg
    subst hP
    subst hw
    subst hK
    obtain ⟨⟨old, he⟩, hit, hne⟩ := st
    obtain ⟨xs, x, hq, hx⟩ := hg
    obtain ⟨its, rv, p, hz⟩ := I.tuple hq
    obtain ⟨u, hu, ru⟩ := rv.get hx
    have hel : e < s.heap.objs.size := Heap.lt_size he
    have hil : it < s.heap.objs.size := by
      obtain ⟨_, q, _⟩ := id hit
      exact Heap.lt_size q
    have hil2 : i < its.toArray.size := by
      rw [List.size_toArray]
      exact (List.getElem?_eq_some_iff.mp hu).1
    have hh : (X.A.in1).handled = none := I.ok.hd hc
    refine wpAny_pyNext_enum_itemD (Draws.tuple hh it a hai its.toArray) he ⟨hit, p⟩ hil2 hne (by
      intro m
      rcases List.mem_cons.mp m with z | z
      · exact hne z
      · exact hae (List.mem_singleton.mp z).symm) fun u' h' tk hPx ho hst hT hsz hk => ?_
    have hux : u' = u := by
      have e1 : its.toArray[i]? = some u := by rw [List.getElem?_toArray]; exact hu
      rw [e1] at hPx
      exact (Option.some.inj hPx).symm
    subst hux
    refine ⟨_, rfl, wpAny_letOwnedTupleGo_enum (s := { s with heap := h', toks := tk + 1 }) ho fun h'' he' sb => ?_⟩
    have hT2 : h''.get? s.heap.objs.size = some { cls := .type "tuple", data := .seq #[.int i tk, u'] } := (sb.2 _ (Nat.ne_of_gt hel)).trans hT
    have new : ObjOk X.prog X.w (upd H s.heap.objs.size (.tup [.int (i : Nat), x])) h'' s.heap.objs.size (.tup [.int (i : Nat), x]) :=
      ⟨(by decide : 2 ≤ sizeLine), [.int i tk, u'], .cons ⟨_, rfl⟩ (.cons ru .nil), ⟨_, hT2, rfl, _, rfl⟩⟩
    have I1 : Inv X pins σ (upd H s.heap.objs.size (.tup [.int (i : Nat), x])) { s with heap := h'', toks := tk + 1 } := by
      refine I.turnedNew (ch := [e, it]) (fun b ob hb q => ?_) hf (Nat.le_refl _) new
      refine (sb.2 b fun z => hb (by rw [z]; exact List.mem_cons_self)).trans ?_
      exact hk b ob (fun z => hb (by rw [z]; exact List.mem_cons_self)) (fun z => hb (by rw [z]; exact List.mem_cons_of_mem _ List.mem_cons_self)) q
    refine ⟨.ref s.heap.objs.size, _, I1, rfl, ⟨_, x, rfl, I.hok.fresh (Nat.le_refl _), rfl, fun ys hy => ?_⟩, ⟨⟨u', ?_⟩, ?_, hne⟩, fun b hb => ?_⟩
    · rw [I.tuple_inj hy hq]
      exact hx
    · have e1 : ((i + 1 : Nat) : Int) = (i : Int) + 1 := by omega
      rw [e1]
      exact he'
    · exact hst.1.at fun o q => (sb.2 it (Ne.symm hne)).trans q
    · have hb' : b < s.heap.objs.size := by
        rcases List.mem_cons.mp hb with z | z
        · rw [z]; exact hel
        · rw [List.mem_singleton.mp z]; exact hil
      rw [upd_ne (Nat.ne_of_lt hb')]
      exact (hf b hb).1
  done := by
    intro X hP hw hK hc i pins s σ H E I hf st hg
    subst hP
    subst hw
    subst hK
    obtain ⟨⟨old, he⟩, hit, hne⟩ := st
    obtain ⟨xs, hq, hx⟩ := hg
    obtain ⟨its, rv, p, hz⟩ := I.tuple hq
    have hl := rv.length
    obtain ⟨f0, f1, f2, f3, f4, f5⟩ := hf it (List.mem_cons_of_mem _ List.mem_cons_self)
    have hh : (X.A.in1).handled = none := I.ok.hd hc
    refine pyNext_enum_endT hh he hit p ?_ fun h' eb => ⟨rfl, ?_⟩
    · rw [List.getElem?_toArray, List.getElem?_eq_none (by omega)]
    · exact I.turned (t' := s.toks) (fun b o hb q => eb b o hb q) f0 f1 f3 f4 f5
  self := by
    rintro A i s Q E ⟨⟨_, he⟩, _⟩ h
    exact wpAny_pyIter_enum he h
def iEnumT (K : PySem.W.Frag) (ta : TA) : TI := fun σ H R => ta σ H fun vs H1 => ∃ a xs, vs = [.ref a] ∧ SqT K H1 a xs ∧ R (ItEt K a) H1
theorem pi_enumT {X : Cx} {e : Expr} {ta : TA} {p pos tpos : Pos} {elts : List Expr} {kk : Nat} (hg : Gl X "enumerate") (hm : X.mg "enumerate" = none) (ha : PA X [e] ta) (hs : starEach [e] X.env = [(false, eval e X.env)] := by rfl) :
    PI X (.Tuple elts kk tpos) (.Call (.Name "enumerate" p) [e] [] pos) (iEnumT X.K ta) := by
  refine ⟨fun pins s σ H R I h => ?_⟩
  refine Call_ (ld_blt I hg hm boot_enumerate (PyProof.Rows.callWith_type1 (thn (ha.run pos pins s σ H _ I h) fun us s1 hh => ?_) hs rfl))
  obtain ⟨vs, H1, I1, r1, a, xs, ex, hq, q⟩ := hh
  subst ex
  cases r1 with
  | cons r rr =>
    cases rr
    cases r
    obtain ⟨its, rv, p', hz⟩ := I1.tuple hq
    have hal : a < s1.heap.objs.size := by
      obtain ⟨_, q, _⟩ := id p'
      exact Heap.lt_size q
    refine enum_made (begins_tuple a its.toArray) p' fun h' he hit hsz hk => wpAny_pyIter_enum he ?_
    have I2 : Inv X pins σ H1 { s1 with heap := h' } := I1.kept (t' := s1.toks) hk
    refine ⟨s1.heap.objs.size + 1, [s1.heap.objs.size + 1, s1.heap.objs.size], _, _, H1, rfl, I2, turn_enumT a (s1.heap.objs.size + 1) s1.heap.objs.size (Nat.ne_of_lt (Nat.lt_succ_of_lt hal)) (Nat.ne_of_lt hal), ⟨⟨.none, he⟩, ⟨_, hit, rfl, rfl⟩, Nat.succ_ne_self _⟩, fun b hb => ?_, q⟩
    have hle : s1.heap.objs.size ≤ b := by
      rcases List.mem_cons.mp hb with z | z
      · rw [z]; exact Nat.le_succ _
      · rw [List.mem_singleton.mp z]; exact Nat.le_refl _
    exact I1.fpOk hle (I1.hok.fresh hle)
theorem walk_enumT {K : PySem.W.Frag} {a : Addr} {xs : List V} : Walk (ItEt K a) xs.length (fun H => SqT K H a xs) (YPair (fun i => some (.int (i : Nat))) (fun i => xs[i]?)) := by
  refine ⟨fun i H hi h => ⟨xs, xs[i], h, List.getElem?_eq_getElem hi⟩, fun H h => ⟨xs, h, Nat.le_refl _⟩, fun i H x H' hi h y => ?_⟩
  obtain ⟨T, x, e1, e2, e3, e4⟩ := y
  exact ⟨T, .int (i : Nat), x, e1, e2, e3, rfl, e4 xs h⟩
theorem f_forE {K : PySem.W.Frag} {tr : TA} {g : TG} {tb : TS} {D : Ends} {σ : St} {H : Hp} (q : tr σ H fun vs H1 => ∃ a xs, vs = [.ref a] ∧ SqT K H1 a xs ∧ ∃ W : Nat → Nat → St → Hp → Prop, (∃ m, W 0 m σ H1) ∧ ∀ i m σ H, W i m σ H →
  ((ItEt K a).stop i H ∧ D.nx σ H) ∨ ((ItEt K a).go i H ∧ ∃ N : St → Hp → Prop, (∀ σ' H', N σ' H' → ∃ m', m' < m ∧ W (i + 1) m' σ' H') ∧ ∀ x H', (ItEt K a).yld i H x H' → g x σ H' fun σ2 H2 => tb { D with nx := N, ct := N, bk := D.nx } σ2 H2)) : tFor (iEnumT K tr) g tb D σ H := q
/-- zip of two tuples in a comprehension -/
theorem e_lcZ {K : PySem.W.Frag} {tr : TA} {g : TG} {tt : TT} {te : TE} {ws : List Nat} {σ : St} {H : Hp} {Q : VK} (q : tr σ H fun vs H1 => ∃ a b xs ys, vs = [.ref a, .ref b] ∧ ((SqL K H1 a xs ∧ SqL K H1 b ys ∧ (fun (J : It) (H1 : Hp) => ∀ D, H1 D = none → ∃ W : Nat → Nat → Hp → Prop, (∃ m, W 0 m (upd H1 D (.lst []))) ∧ ∀ i m H, W i m H →
  (J.stop i H ∧ Q (.ref D) H) ∨ (J.go i H ∧ ∃ Nx : Hp → Prop, (∀ H', Nx H' → ∃ m', m' < m ∧ W (i + 1) m' H') ∧ ∀ x H', J.yld i H x H' → g x (wipe σ ws) H' fun σ2 H2 => wipe σ2 ws = wipe σ ws ∧ tt σ2 H2 fun b H3 =>
    if b = true then te σ2 H3 fun y H4 => ∃ acc, H4 D = some (.lst acc) ∧ acc.length < sizeLine ∧ Nx (upd H4 D (.lst (acc ++ [y]))) else Nx H3)) (Itz K a b) H1) ∨ (SqT K H1 a xs ∧ SqT K H1 b ys ∧ ∀ D, H1 D = none → ∃ W : Nat → Nat → Hp → Prop, (∃ m, W 0 m (upd H1 D (.lst []))) ∧ ∀ i m H, W i m H →
  ((ItzT K a b).stop i H ∧ Q (.ref D) H) ∨ ((ItzT K a b).go i H ∧ ∃ Nx : Hp → Prop, (∀ H', Nx H' → ∃ m', m' < m ∧ W (i + 1) m' H') ∧ ∀ x H', (ItzT K a b).yld i H x H' → g x (wipe σ ws) H' fun σ2 H2 => wipe σ2 ws = wipe σ ws ∧ tt σ2 H2 fun b H3 =>
    if b = true then te σ2 H3 fun y H4 => ∃ acc, H4 D = some (.lst acc) ∧ acc.length < sizeLine ∧ Nx (upd H4 D (.lst (acc ++ [y]))) else Nx H3)))) : tLc (iZipA K tr) g tt te ws σ H Q := q
theorem walk_zipT {K : PySem.W.Frag} {a b : Addr} {xs ys : List V} {n : Nat} (hn : n = min xs.length ys.length) : Walk (ItzT K a b) n (fun H => SqT K H a xs ∧ SqT K H b ys) (YPair (fun i => xs[i]?) (fun i => ys[i]?)) := by
  refine ⟨fun i H hi h => ⟨xs, ys, xs[i]'(by omega), ys[i]'(by omega), h.1, h.2, List.getElem?_eq_getElem (by omega), List.getElem?_eq_getElem (by omega)⟩, fun H h => ⟨xs, ys, h.1, h.2, by omega⟩, fun i H x H' hi h y => ?_⟩
  obtain ⟨T, x, y, e1, e2, e3, e4, e5⟩ := y
  exact ⟨T, x, y, e1, e2, e3, e4 xs h.1, e5 ys h.2⟩
/-- a comprehension without a test whose elements keep what stands -/
theorem comp_w {J : It} {n : Nat} {G : Hp → Prop} {Y : Nat → Hp → V → Hp → Prop} (wk : Walk J n G Y) {g : TG} {te : TE} {vs : List Nat} {σ σw : St} {H : Hp} {QD : Addr → Hp → Prop} {ys : List V} (hw : wipe σ vs = σw) (hn : n ≤ 1000) (hy : ys.length = n) (hG : ∀ H', Same H H' → G H')
    (he : ∀ (i : Nat) (x y : V) (H2 H3 : Hp) (R : VK), i < n → ys[i]? = some y → Same H H2 → Y i H2 x H3 → (∀ H4, Same H2 H4 → R y H4) → g x σw H3 fun σ2 H4 => wipe σ2 vs = σw ∧ te σ2 H4 R)
    (q : ∀ D H', H D = none → Same H H' → H' D = some (.lst ys) → QD D H') :
    ∀ D, H D = none → ∃ W : Nat → Nat → Hp → Prop, (∃ m, W 0 m (upd H D (.lst []))) ∧ ∀ i m H, W i m H →
      (J.stop i H ∧ QD D H) ∨ (J.go i H ∧ ∃ Nx : Hp → Prop, (∀ H', Nx H' → ∃ m', m' < m ∧ W (i + 1) m' H') ∧ ∀ x H', J.yld i H x H' → g x (wipe σ vs) H' fun σ2 H2 => wipe σ2 vs = wipe σ vs ∧ tYes σ2 H2 fun b H3 =>
        if b = true then te σ2 H3 fun y H4 => ∃ acc, H4 D = some (.lst acc) ∧ acc.length < sizeLine ∧ Nx (upd H4 D (.lst (acc ++ [y]))) else Nx H3) := by
  intro D hD
  refine lc_it wk (fun i H' => Same H H' ∧ H' D = some (.lst (ys.take i))) ⟨same_upd hD, upd_same⟩ (fun i H' _ h => hG _ h.1) (fun i x H2 H3 hi h hyi => ?_) fun H' h => ?_
  · rw [hw]
    have hy' : ys[i]? = some ys[i] := List.getElem?_eq_getElem (by omega)
    obtain ⟨hs, hd⟩ := h
    refine he i x ys[i] H2 H3 _ hi hy' hs hyi fun H4 s4 => ?_
    refine ⟨ys.take i, s4 _ _ hd, ?_, ?_, ?_⟩
    · rw [List.length_take]
      exact Nat.lt_of_le_of_lt (Nat.min_le_left _ _) (small1000 (by omega))
    · intro b o hb
      rw [upd_ne (ne_of_none hb hD)]
      exact s4 _ _ (hs _ _ hb)
    · rw [upd_same, List.take_add_one, hy']
      rfl
  · rw [← hy, List.take_length] at h
    exact q D H' hD h.1 h.2
/-! ### an own exception's __init__ that begins with super().__init__(..) -/
section
open PySem.W (kxs_mw kxs_ValueError kxs_getMethod kxs_callWith ks_superIn)
/-- the built-in __init__ bound to the exception at e, called: its args are laid anew -/
theorem call_mw {prog : Program} {w : World} {A : Around} {E : Value → Shared → Prop} {h : Heap} {g : Array GenState} {d : Drawn} {t : Nat} {os : OsState} {nm q : Str} {C N : Addr} {bs bm : List Value} {hdct : Bool} {sn : List Str} {sub : List Value} {ab : Bool} {col : Option Bool} {dd : Option Addr}
    {k0 k1 k2 k3 k5 : Option Value} {u e t0 : Addr} {rest : List Value} {Q : Value → Shared → Prop} (hC : h.get? C = some (excClassObj nm q C N bs bm hdct sn sub ab col dd k0 k1 k2 k3 k5 "ValueError.__new__"))
    (he : h.get? e = some (PySem.HandSPX.excO C t0)) (hu : h.get? u = some (kxs_mw "ValueError.__init__" e)) (hrest : rest.length ≤ sizeLine)
    (hq : ∀ h' t1, (∀ b o, b ≠ e → h.get? b = some o → h'.get? b = some o) → h'.get? e = some (PySem.HandSPX.excO C t1) → Q .none ⟨h', g, d, t, os⟩) :
    wpAny (model prog w) A (call (.ref u) rest) Q E ⟨h, g, d, t, os⟩ := by
  refine wpAny_call (codeAny_of_tree ?_)
  show wpAny _ A.in1 (callAny (.ref u) ⟨rest, []⟩) _ _ _
  simp only [callAny]
  refine wpAny_bind (wpAny_load hu ?_)
  have hb1 : (Value.type "method-wrapper" == Value.type "method" || Value.type "method-wrapper" == Value.type "builtin_function_or_method" || Value.type "method-wrapper" == Value.type "method-wrapper") = true := by decide
  simp only [kxs_mw, hb1, if_true]
  refine PySem.W.KFB.if_so (by decide) ?_
  refine wpAny_bind (PySem.W.check_bound_init F.excBase_ValueError.toExcCallFacts hC he rfl ?_)
  refine wpAny_bind (wpAny_pure (wpAny_pure ?_))
  refine ⟨Code.quiet_builtin _ (by decide +kernel), codeAny_builtin F.excBase_ValueError.initEntry ?_⟩
  rw [Around.under_plainId F.excBase_ValueError.init.plain _]
  have hne : h.objs.size ≠ e := Nat.ne_of_gt (Heap.lt_size he)
  wp_walk
  refine hq _ h.objs.size (fun b o hb ho => ?_) ?_
  · rw [Heap.get?_update_other _ _ (Ne.symm hb)]
    exact Heap.get?_push_of_some _ ho
  · rw [Heap.get?_update_self _ (Heap.get?_push_of_some _ he) rfl]
    rfl
abbrev supBody (e : Expr) (rest : List Stmt) (p0 p1 p2 p3 p4 : Pos) : List Stmt := .Expr (.Call (.Attribute (.Call (.Name "super" p0) [] [] p1) "__init__" p2) [e] [] p3) p4 :: rest
/-- what the written part says of the class at D and its __init__'s closure and code -/
structure SupC (P : Program) (K : PySem.W.Frag) (mg : Str → Option Value) (D cc cda : Addr) : Prop where
  code : ∃ ccl cdd vs0 ccs file tf, K.lookup cda = some ⟨ccl, cdd, .fields vs0, ccs⟩ ∧ vs0[2]? = some (.str file tf) ∧ ((P.main.file : Str) == file) = true
  cell : ∃ cl cld csl, K.lookup cc = some ⟨cl, cld, .cell (some (.ref D)), csl⟩
  cls : ∃ cdD, PySem.W.clsIn K D = some cdD
  sub : PySem.W.mroIn K D (.ref D) = some true
  sup : mg "super" = none
  top : (P.main.scope.names.lookup ("super" : Str)).isSome = false
  lo : PySem.W.nsIn K PySem.cStatics "thirdparty.any" = some none
  al : ks_superIn K D D "__init__" = some (some (.builtin "ValueError.__init__"))
  ve : PySem.W.subIn K (.ref D) (.type "ValueError") = some true
  ox : OexC K D
theorem fn_sup {CX : CXT} {P : Program} {w : World} {K : PySem.W.Frag} {mg : Str → Option Value} {base : Heap} {k : Nat} {f cc cda D : Addr} {name qual : Str} {params : Arguments} {e : Expr} {rest : List Stmt} {scope : Scope} {dV kV doc pm ct oc : Value} {an od : Option Addr}
    {osl : Array (Option Value)} {ar : Arg} {N ps : List Str} {sp : Sp} {p0 p1 p2 p3 p4 : Pos}
    (lk : K.lookup f = some ⟨oc, od, .func (PySem.W.fnX name qual params (supBody e rest p0 p1 p2 p3 p4) scope [("__class__", cc)] dV kV doc pm an (.ref cda) ct), osl⟩)
    (hcd : PySem.W.codeIn K (.ref cda) qual = true) (S : NdefX.NScope N ps ["__class__"] scope) (hN0 : N[0]? = some ar.arg) (hka : scope.names.lookup ar.arg = some .local) (har : (params.posonlyargs ++ params.args).head? = some ar)
    (hks : scope.names.lookup ("super" : Str) = some .globalImplicit) (SC : SupC P K mg D cc cda)
    (len : ∀ vs H Q E, sp vs H Q E → vs.length = ps.length)
    (hbody : ∀ (A : Around) (outer : List Env) (s : Shared) (H : Hp) (vs : List V) (Q : VK) (E : XK), Room k (A.deeper (NdefX.envF ⟨name, qual, params, supBody e rest p0 p1 p2 p3 p4, scope, [("__class__", cc)], cda⟩ f s.heap.objs.size)) → sp vs H Q E →
      ∃ ta t, PA (NdefX.ncx CX P w K mg base N ⟨name, qual, params, supBody e rest p0 p1 p2 p3 p4, scope, [("__class__", cc)], cda⟩ f A outer s H E) [e] ta ∧
        PSs (NdefX.ncx CX P w K mg base N ⟨name, qual, params, supBody e rest p0 p1 p2 p3 p4, scope, [("__class__", cc)], cda⟩ f A outer s H E) rest t ∧ ∃ a, (NdefX.startF N vs [none])[0]? = some (some (.ref a)) ∧ H a = some (exo a D none) ∧
        ta (NdefX.startF N vs [none]) H fun us H1 => us.length ≤ 1000 ∧ H1 a = some (exo a D none) ∧ t { nx := fun _ H' => Q .non H', rt := Q } (NdefX.startF N vs [none]) H1)
    (he : ∀ env : Env, starEach [e] env = [(false, eval e env)] := by intro _; rfl)
    (hev : ∀ L, ∃ pl, eval (.Call (.Attribute (.Call (.Name "super" p0) [] [] p1) "__init__" p2) [e] [] p3) (NdefX.envF ⟨name, qual, params, supBody e rest p0 p1 p2 p3 p4, scope, [("__class__", cc)], cda⟩ f L) = (do
      let ov ← attributeBase (.Call (.Name "super" p0) [] [] p1) "__init__" (NdefX.envF ⟨name, qual, params, supBody e rest p0 p1 p2 p3 p4, scope, [("__class__", cc)], cda⟩ f L) (eval (.Call (.Name "super" p0) [] [] p1) (NdefX.envF ⟨name, qual, params, supBody e rest p0 p1 p2 p3 p4, scope, [("__class__", cc)], cda⟩ f L))
      standAt p2.atName
      let (fm, first) ← holding [ov] (getMethod ov "__init__" pl)
      callWith p3 fm first (backTo p3 (starEach [e] (NdefX.envF ⟨name, qual, params, supBody e rest p0 p1 p2 p3 p4, scope, [("__class__", cc)], cda⟩ f L))) []) := by intro L; exact ⟨_, rfl⟩)
    (hint : ∀ L, interactive (NdefX.envF ⟨name, qual, params, supBody e rest p0 p1 p2 p3 p4, scope, [("__class__", cc)], cda⟩ f L) = false := by intro L; rfl)
    (hsw : ∀ L, swapsWith (.Call (.Attribute (.Call (.Name "super" p0) [] [] p1) "__init__" p2) [e] [] p3) none p4.line (NdefX.envF ⟨name, qual, params, supBody e rest p0 p1 p2 p3 p4, scope, [("__class__", cc)], cda⟩ f L) = pure false := by intro L; rfl) :
    FnOk P w K mg base CX (k + 1) f (PySem.W.fnX name qual params (supBody e rest p0 p1 p2 p3 p4) scope [("__class__", cc)] dV kV doc pm an (.ref cda) ct) ps sp := by
  refine ⟨len, fun A outer s H args us vs Q E hr e0 hb r hsp => ?_⟩
  have hl := len _ _ _ _ hsp
  have KX : K.In s.heap := e0.mod.kin.keeps fun b o q => (e0.bs b o q).1
  have lim : s.heap.NoLimit := e0.mod.nolimit.keeps fun b o q => (e0.bs b o q).1
  obtain ⟨cl, cld, csl, hcell⟩ := SC.cell
  have hcb := e0.mod.kin _ _ hcell
  have CA : NdefX.CellsAt [(("__class__" : Str), cc)] ["__class__"] [none] s.heap H := by
    refine ⟨rfl, fun y c q => ?_, fun x y c q1 q2 => ?_, fun i y q => ?_⟩
    · have e1 : c = cc := by
        rw [List.lookup_cons] at q
        split at q
        · exact (Option.some.inj q).symm
        · cases q
      rw [e1]
      exact ⟨(e0.bs _ _ hcb).2, _, _, KX _ _ hcell, rfl⟩
    · have k1 : ∀ z, List.lookup z [(("__class__" : Str), cc)] = some c → z = "__class__" := by
        intro z qz
        rw [List.lookup_cons] at qz
        split at qz
        · rename_i hz
          exact eq_of_beq hz
        · cases qz
      rw [k1 x q1, k1 y q2]
    · match i with
      | 0 =>
        obtain rfl : ("__class__" : Str) = y := Option.some.inj q
        exact ⟨cc, rfl, fun v z => by cases z⟩
      | i + 1 => cases q
  refine codeAny_call_function hr.depth (KX _ _ lk) rfl S.co S.gen rfl (PySem.W.codeRec_of KX hcd) (hb _ _ _ _ ?_)
  refine wpAny_newFunctionEnv S.nocell (fun ⟨n, _⟩ hy => S.par n (List.of_mem_zip hy).1) (fun h₁ hns hsb => ⟨lim.fresh _ hsb, ?_⟩) S.kind
  have kp : ∀ b o, s.heap.get? b = some o → h₁.get? b = some o := fun b o q => hsb.extBut b o (Nat.ne_of_lt (Heap.lt_size q)) (Heap.get?_push_of_some _ q)
  obtain ⟨ta, t, hA, hR, a, ha0, hae, hrd⟩ := hbody A outer s H vs Q E (hr.deeper _) hsp
  have I := NdefX.inv_startN (CX := CX) (F := ⟨name, qual, params, supBody e rest p0 p1 p2 p3 p4, scope, [("__class__", cc)], cda⟩) (f := f) (E := E) (tk := s.toks + (ps.zip us).length) S hr.hd e0 hl r CA hns kp
  show codeAny _ _ (.func (supBody e rest p0 p1 p2 p3 p4) (NdefX.envF ⟨name, qual, params, supBody e rest p0 p1 p2 p3 p4, scope, [("__class__", cc)], cda⟩ f s.heap.objs.size)) _ _
  refine ks_codeAny_funcAt ?_
  obtain ⟨pl, hpl⟩ := hev s.heap.objs.size
  refine ks_wpAt_execs_cons (ks_wpAt_Expr_any (ks_wpAt_MethodCall (pl := pl) ?_ hpl) (hint _) (hsw _))
  -- super()
  obtain ⟨ccl, cdd, vs0, ccs, file, tf, hcode, hvs, hfile⟩ := SC.code
  obtain ⟨cdD, hD⟩ := SC.cls
  obtain ⟨mL, hnL, hloc⟩ := I.loc
  obtain ⟨u0, ru0, hu0⟩ := hloc 0 ar.arg (.ref a) hN0 ha0 (.inl hka)
  have hma : mL ar.arg = some (.ref a) := by
    rcases hu0 with ⟨_, q⟩ | ⟨q, _⟩
    · rw [q]
      exact congrArg some ru0
    · have q' : scope.names.lookup ar.arg = some .cell ∨ scope.names.lookup ar.arg = some .free := q
      rw [hka] at q'
      rcases q' with z | z <;> cases z
  have X1 : K.In h₁ := KX.keeps kp
  obtain ⟨oD, hD1, hD2⟩ : ∃ oD, h₁.get? D = some oD ∧ oD.data = .cls cdD := by
    unfold PySem.W.clsIn at hD
    split at hD
    · rename_i c d cd' sl ho
      cases hD
      exact ⟨_, X1 _ _ ho, rfl⟩
    · cases hD
  obtain ⟨t1, hoa⟩ := exo_at I.hok hae
  obtain ⟨mb, hmb1, hmb2⟩ := e0.mod.blt
  have hkf : scope.names.lookup ("__class__" : Str) = some .free := S.frk _ List.mem_cons_self
  refine ks_wpAt_super_base (env := NdefX.envF ⟨name, qual, params, supBody e rest p0 p1 p2 p3 p4, scope, [("__class__", cc)], cda⟩ f s.heap.objs.size) hks hkf (by decide +kernel) rfl (X1 _ _ lk) rfl har rfl (X1 _ _ hcode) rfl hvs hfile SC.top ?_
  refine PySem.W.ks_loadName_global S.kind hks (Calls.loadGlobal_builtin (I.mod.glob.keeps I.bk) SC.sup (hmb1.keeps I.bk) ((hmb2 _ (by decide)).trans (by decide +kernel : bootBuiltins "super" = some (.type "super"))) ⟨rfl, ?_⟩)
  refine wpAny_loadName_free S.kind hkf rfl ⟨_, X1 _ _ hcell, rfl⟩ ?_
  refine wpAny_loadName_local S.kind hka hnL hma ?_
  refine ks_wpAny_isType_cls hD1 hD2 ⟨rfl, ?_⟩
  refine ks_wpAny_call_super hD1 hD2 hoa rfl (fun c q => by cases q) (PySem.W.looks_mroIn X1 SC.sub) (fun h2 e2 k2 => ?_)
  have hne : a ≠ D := fun z => by
    rw [z, hD1] at hoa
    rw [Option.some.inj hoa] at hD2
    cases hD2
  have I2 := I.kept (h' := h2) (t' := s.toks + (ps.zip us).length) k2
  have X2 : K.In h2 := I2.kIn
  have ha2 := k2 _ _ hoa
  have IA : PySem.W.InstAt h2 a _ D none := ⟨ha2, rfl, rfl, trivial⟩
  have hI : PySem.W.Looks (model P w) h2 (isInstance (.ref a) (.type "ValueError")) true := IA.type.andThen (PySem.W.looks_subIn X2 SC.ve)
  have hal := SC.al
  unfold PySem.W.ks_superIn at hal
  rw [hD] at hal
  refine kxs_getMethod kxs_ValueError e2 (PySem.W.looks_opaque X2 SC.lo) (l₀ := cdD.mro) (fun A Q E s k q => wpAny_bind ((PySem.W.looks_clsIn X2 hD) A _ E s k (wpAny_pure q))) rfl X2 hal hI hne (by decide +kernel) ?_
  -- the arguments, with the bound __init__ held
  have k3 : ∀ b o, h2.get? b = some o → (h2.push (kxs_mw "ValueError.__init__" a)).get? b = some o := fun b o q => Heap.get?_push_of_some _ q
  have I3 := I2.kept (h' := h2.push (kxs_mw "ValueError.__init__" a)) (t' := s.toks + (ps.zip us).length + 1) k3
  have hun : H h2.objs.size = none := I2.hok.fresh (Nat.le_refl _)
  have I3p := I3.pins_of (pins' := [(h2.objs.size, kxs_mw "ValueError.__init__" a)]) fun p hp => by
    rw [List.mem_singleton.mp hp]
    exact ⟨Heap.get?_push_at rfl rfl, hun, Nat.ne_of_gt I2.lt, I2.nofs (Nat.le_refl _), fun v q => by cases q⟩
  have hq := hA.run p3 [(h2.objs.size, kxs_mw "ValueError.__init__" a)] _ _ H _ I3p hrd
  refine kxs_callWith (i := "ValueError.__init__") (x := a) (by
    rw [he]
    rfl) ?_
  rw [he] at hq ⊢
  refine Calls.evalArgs_plain ?_
  refine thn hq fun us s4 h4 => ?_
  obtain ⟨vV, H1, I4, rV, hlen, hae1, hrest⟩ := h4
  obtain ⟨hu4, _⟩ := I4.pin (h2.objs.size, kxs_mw "ValueError.__init__" a) (List.mem_append_right _ List.mem_cons_self)
  refine ⟨hu4, ?_⟩
  obtain ⟨nm, q, N', bs, bm, sn, sub, ab, col, dd, k0, k1, k2', k3', k5, hC, hbm⟩ := SC.ox.cls
  obtain ⟨t4, ho4⟩ := exo_at I4.hok hae1
  obtain ⟨hp4, g4, d4, tk4, os4⟩ := s4
  show wpAny _ _ (call (.ref h2.objs.size) us) _ _ _
  refine call_mw (I4.kIn _ _ hC) ho4 hu4 (by
    rw [← rV.length, sizeLine_eq]
    omega) (fun h5 t5 k5' e5 => ?_)
  have J := I4.write (t' := tk4) (x := a) (e := a) (o := exo a D none) (by rw [hae1]; exact True.intro) (.inl rfl) k5' ⟨_, e5⟩ (exo_ok e5)
  have eu : upd H1 a (exo a D none) = H1 := by
    funext b
    by_cases hb : b = a
    · rw [hb, upd_same, hae1]
    · rw [upd_ne hb]
  rw [eu] at J
  refine wpAt_of_wpAny ?_
  refine wpAny_mono (hR.run [] _ _ H1 _ (J.pins_of fun p hp => absurd hp List.not_mem_nil) hrest) (fun fl s' hs => ?_) fun e s' hs => hs
  cases fl with
  | ret u =>
    obtain ⟨v, σ', H', J', rv, q⟩ := hs
    exact ⟨v, H', J'.os, J'.bare, J'.base, J'.hok, rv, q⟩
  | next =>
    obtain ⟨σ', H', J', q⟩ := hs
    exact ⟨V.non, H', J'.os, J'.bare, J'.base, J'.hok, rfl, q⟩
  | brk =>
    obtain ⟨_, _, _, q⟩ := hs
    exact False.elim q
  | cont =>
    obtain ⟨_, _, _, q⟩ := hs
    exact False.elim q
end
/-! ### such a def, as Fun says of the others -/
structure FunS (P : Program) (K : PySem.W.Frag) (mg : Str → Option Value) (D : Addr) (x qual : Str) (st : Stmt) (f : Addr) (fd : FuncData) : Prop where
  ex : ∃ (oc : Value) (od : Option Addr) (kV doc pm : Value) (an : Option Addr) (cda cc : Addr) (ct : Value) (osl : Array (Option Value)), fd = PySem.W.fnX x qual (defArgs st) (defBody st) (defScope st) [("__class__", cc)] .none kV doc pm an (.ref cda) ct ∧ K.lookup f = some ⟨oc, od, .func fd, osl⟩ ∧ PySem.W.codeIn K (.ref cda) qual = true ∧ SupC P K mg D cc cda
theorem FunS.ok {CX : CXT} {P : Program} {w : World} {K : PySem.W.Frag} {mg : Str → Option Value} {base : Heap} {k : Nat} {f D : Addr} {x qual : Str} {st : Stmt} {fd : FuncData} {e : Expr} {rest : List Stmt} {ar : Arg} {N ps : List Str} {sp : Sp} {p0 p1 p2 p3 p4 : Pos}
    (F : FunS P K mg D x qual st f fd) (S : NdefX.NScope N ps ["__class__"] (defScope st)) (hB : defBody st = supBody e rest p0 p1 p2 p3 p4) (hN0 : N[0]? = some ar.arg) (hka : (defScope st).names.lookup ar.arg = some .local) (har : ((defArgs st).posonlyargs ++ (defArgs st).args).head? = some ar)
    (hks : (defScope st).names.lookup ("super" : Str) = some .globalImplicit) (len : ∀ vs H Q E, sp vs H Q E → vs.length = ps.length)
    (hbody : ∀ (cc cda : Addr) (A : Around) (outer : List Env) (s : Shared) (H : Hp) (vs : List V) (Q : VK) (E : XK), OexC K D → Room k (A.deeper (NdefX.envF ⟨x, qual, defArgs st, supBody e rest p0 p1 p2 p3 p4, defScope st, [("__class__", cc)], cda⟩ f s.heap.objs.size)) → sp vs H Q E →
      ∃ ta t, PA (NdefX.ncx CX P w K mg base N ⟨x, qual, defArgs st, supBody e rest p0 p1 p2 p3 p4, defScope st, [("__class__", cc)], cda⟩ f A outer s H E) [e] ta ∧
        PSs (NdefX.ncx CX P w K mg base N ⟨x, qual, defArgs st, supBody e rest p0 p1 p2 p3 p4, defScope st, [("__class__", cc)], cda⟩ f A outer s H E) rest t ∧ ∃ a, (NdefX.startF N vs [none])[0]? = some (some (.ref a)) ∧ H a = some (exo a D none) ∧
        ta (NdefX.startF N vs [none]) H fun us H1 => us.length ≤ 1000 ∧ H1 a = some (exo a D none) ∧ t { nx := fun _ H' => Q .non H', rt := Q } (NdefX.startF N vs [none]) H1)
    (he : ∀ env : Env, starEach [e] env = [(false, eval e env)] := by intro _; rfl)
    (hev : ∀ cc cda L, ∃ pl, eval (.Call (.Attribute (.Call (.Name "super" p0) [] [] p1) "__init__" p2) [e] [] p3) (NdefX.envF ⟨x, qual, defArgs st, supBody e rest p0 p1 p2 p3 p4, defScope st, [("__class__", cc)], cda⟩ f L) = (do
      let ov ← attributeBase (.Call (.Name "super" p0) [] [] p1) "__init__" (NdefX.envF ⟨x, qual, defArgs st, supBody e rest p0 p1 p2 p3 p4, defScope st, [("__class__", cc)], cda⟩ f L) (eval (.Call (.Name "super" p0) [] [] p1) (NdefX.envF ⟨x, qual, defArgs st, supBody e rest p0 p1 p2 p3 p4, defScope st, [("__class__", cc)], cda⟩ f L))
      standAt p2.atName
      let (fm, first) ← holding [ov] (getMethod ov "__init__" pl)
      callWith p3 fm first (backTo p3 (starEach [e] (NdefX.envF ⟨x, qual, defArgs st, supBody e rest p0 p1 p2 p3 p4, defScope st, [("__class__", cc)], cda⟩ f L))) []) := by intro cc cda L; exact ⟨_, rfl⟩)
    (hint : ∀ cc cda L, interactive (NdefX.envF ⟨x, qual, defArgs st, supBody e rest p0 p1 p2 p3 p4, defScope st, [("__class__", cc)], cda⟩ f L) = false := by intro cc cda L; rfl)
    (hsw : ∀ cc cda L, swapsWith (.Call (.Attribute (.Call (.Name "super" p0) [] [] p1) "__init__" p2) [e] [] p3) none p4.line (NdefX.envF ⟨x, qual, defArgs st, supBody e rest p0 p1 p2 p3 p4, defScope st, [("__class__", cc)], cda⟩ f L) = pure false := by intro cc cda L; rfl) : FnOk P w K mg base CX (k + 1) f fd ps sp := by
  obtain ⟨oc, od, kV, doc, pm, an, cda, cc, ct, osl, rfl, lk, hcd, SC⟩ := F.ex
  rw [hB] at lk ⊢
  exact fn_sup lk hcd S hN0 hka har hks SC len (fun A outer s H vs Q E hr h => hbody cc cda A outer s H vs Q E SC.ox hr h) he (hev cc cda) (hint cc cda) (hsw cc cda)
theorem FunS.binds {P : Program} {K : PySem.W.Frag} {mg : Str → Option Value} {D : Addr} {x qual : Str} {st : Stmt} {f : Addr} {fd : FuncData} {ps : List Str} (F : FunS P K mg D x qual st f fd)
    (h : ∀ (kV doc pm : Value) (an : Option Addr) (cda cc : Addr) (ct : Value) (us : List Value), us.length = ps.length → bindArgs (PySem.W.fnX x qual (defArgs st) (defBody st) (defScope st) [("__class__", cc)] .none kV doc pm an (.ref cda) ct) ⟨us, []⟩ = pure (ps.zip us)) : Binds K fd ps [] := by
  obtain ⟨oc, od, kV, doc, pm, an, cda, cc, ct, osl, rfl, lk, hcd, _⟩ := F.ex
  exact .all (h kV doc pm an cda cc ct)
/-! ### several except clauses, each with a name -/
/-- what the clauses wish, one behind the other; i: the name's slot -/
def wManyA (K : PySem.W.Frag) (Wout : WX) (D : Ends) : List (Value × Nat × (Addr → Value → Option Addr → TS)) → WX
  | [] => Wout
  | (c, i, ts) :: r => fun cls d σ H => ∃ b, PySem.W.exmOne K cls c = some b ∧
      (b = true → ∀ a, H a = none → ts a cls d { nx := fun σ' H' => D.nx (σ'.set i none) H', rt := D.rt, bk := fun σ' H' => D.bk (σ'.set i none) H', ct := fun σ' H' => D.ct (σ'.set i none) H' } (σ.set i (some (.ref a))) H) ∧
      (b = false → wManyA K Wout D r cls d σ H)
inductive HdsA (X : Cx) : List ExceptHandler → List (Value × Nat × (Addr → Value → Option Addr → TS)) → Prop
  | nil : HdsA X [] []
  | cons {x n : Str} {c : Value} {i : Nat} {ts : Addr → Value → Option Addr → TS} {b₀ : Stmt} {suite : List Stmt} {np pos' : Pos} {hds : List ExceptHandler} {l : List (Value × Nat × (Addr → Value → Option Addr → TS))} (hc : Names X x c) (hi : X.N[i]? = some n) (hln : X.env.kindOf n = some .local)
      (hsu : ∀ (a : Addr) (oe : Obj) (cls : Value) (d : Option Addr) (pn : List (Addr × Obj)), Zc cls d oe → (∃ vs, oe.data = .fields vs) → PSs (X.suite a ((a, oe) :: pn)) (b₀ :: suite) (ts a cls d)) (r : HdsA X hds l) :
      HdsA X (.ExceptHandler (some (.Name x np)) (some n) (b₀ :: suite) pos' :: hds) ((c, i, ts) :: l)
section
variable {X : Cx} {body : List Stmt} {h₀ : ExceptHandler} {hds : List ExceptHandler} {l : List (Value × Nat × (Addr → Value → Option Addr → TS))} {pos : Pos} {tb : WX → TS} {Wout : WX}
theorem ps_try_manyA (hs : X.stack = X.env :: X.outer) (hf : X.env.frame = some X.env.locals) (hN : X.N.Nodup) (tk : Takes X Wout)
    (hb : ∀ (W : WX) (pn : List (Addr × Obj)) (xe : Value → Shared → Prop), Takes (X.tr pn xe) W → PassesOwn (model X.prog X.w) X.A X.env xe → PSs (X.tr pn xe) body (tb W))
    (hh : HdsA X (h₀ :: hds) l) : PS X (.Try body (h₀ :: hds) [] [] pos) (fun D σ H => tb (wManyA X.K Wout D l) D σ H) := by
  refine ⟨fun pins s σ H D I h => ?_⟩
  have ok := I.ok
  have hfr : X.A.frames = some (X.env :: X.outer) := by
    rw [ok.frames, hs]
  let after : Value → Shared → Prop := fun e s₁ => wpAny (model X.prog X.w) X.A (noteFrame e X.env) (fun _ s₂ => wpAny (model X.prog X.w) X.A (setFlight e none) (fun _ s₃ => wpAny (model X.prog X.w) X.A (handleBy e X.env (h₀ :: hds)) (SP X pins D) X.xe s₃) X.xe s₂) X.xe s₁
  have takes : Takes (X.tr (X.pn ++ pins) after) (wManyA X.K Wout D l) := by
    intro u s' xx
    obtain ⟨a, B, sI, pins', σ', H', cls, d, rfl, J', nb, up, sky, na, os, ag, wsh⟩ := xx
    have J : Inv X pins σ' H' sI := J'.ofTry ok
    have sky' : Sky B (X.env :: X.outer) a (Zc cls d) X.env.locals s'.heap := by
      rw [← hs]
      exact sky
    show wpAny (model X.prog X.w) X.A (noteFrame (.ref a) X.env) _ _ _
    refine Sky.land Zc.steady hfr hf sky' fun h3 fl3 up3 => ?_
    have J3 : Inv X pins σ' H' { s' with heap := h3 } := J.landed nb fl3.1 (up.trans up3) os ag
    obtain ⟨oe3, vs3, he3, hz3, hd3⟩ := fl3.there
    have nfr : a ∉ frs (X.env :: X.outer) := fun hm => by
      obtain ⟨_, o', e', hnf⟩ := fl3.2.2.1.mem hm
      rw [he3] at e'
      cases e'
      exact hnf _ hd3
    have nL : a ≠ X.env.locals := fun z => nfr (List.mem_filterMap.mpr ⟨X.env, List.mem_cons_self, by rw [hf, z]⟩)
    have nF : a ∉ X.fs := fun hm => by
      obtain ⟨e, he, q⟩ := List.mem_filterMap.mp hm
      exact nfr (List.mem_filterMap.mpr ⟨e, List.mem_cons_of_mem _ he, q⟩)
    have S3 := J3.suite he3 hd3 na nL nF
    have go : ∀ {hds' : List ExceptHandler} {l' : List (Value × Nat × (Addr → Value → Option Addr → TS))}, HdsA X hds' l' → wManyA X.K Wout D l' cls d σ' H' →
        wpAny (model X.prog X.w) X.A (handleBy (.ref a) X.env hds') (SP X pins D) X.xe { s' with heap := h3 } := by
      intro hds' l' hk
      induction hk with
      | nil =>
        intro wq
        refine wpAny_handleBy_nil ?_
        obtain ⟨k1, k2, k3, oe, vs, T, oT, ts', he, hz, hd, h1, hr⟩ := id fl3
        unfold PySem.passOn
        refine wpAny_bind (wpAny_field he hd h1 ?_)
        rw [if_neg (by simp : ¬ ((Value.ref T == Value.none) = true))]
        have fin : wpAny (model X.prog X.w) X.A (setFlight (.ref a) X.env.frame) (fun _ s4 => wpAny (model X.prog X.w) X.A (throw (.ref a) : Sem Flow) (SP X pins D) X.xe s4) X.xe { s' with heap := h3 } := by
          rw [hf]
          refine HandSPX.setFlight_upZ fl3 fun h4 hh4 up4 => wpAny_throw (tk _ _ ?_)
          refine ⟨a, B, sI, pins, σ', H', cls, d, rfl, J, nb, (up.trans up3).trans up4, .inr (.inr ?_), na, os, ag, wq⟩
          rw [hs]
          exact hh4
        first
          | exact wpAny_bind (wpAny_pure (wpAny_bind fin))
          | exact wpAny_bind fin
      | @cons x n c i ts b₀ suite np pos' hds2 l2 hc hi hln hsu r ih =>
        intro wq
        obtain ⟨b, hb1, hyes, hno⟩ := wq
        refine wpAny_handleBy_cons (codeAny_handlers_test ?_) (by intro q; cases q)
        have LT : PySem.W.Looks (model X.prog X.w) h3 (typeOf (.ref a)) cls := fun A Q E s k q => wpAny_typeOf_ref (k _ _ he3) (by
          rw [hz3.1]
          exact q)
        have LM := PySem.W.exm_one (M := model X.prog X.w) (J3.kIn) LT hb1
        have test : ∀ {Q : Value → Shared → Prop} {E : Value → Shared → Prop}, Q c { s' with heap := h3 } → wpAny (model X.prog X.w) (X.A.mark (some (.ref a))) (eval (.Name x np) X.env) Q E { s' with heap := h3 } := by
          intro Q E q
          obtain ⟨hg, hdbg, hm | ⟨hm, hv, hnn⟩⟩ := hc
          · exact ld_glob (X := X.suite a ((a, oe3) :: (X.pn ++ pins))) S3 hg hm q hdbg
          · exact ld_blt (X := X.suite a ((a, oe3) :: (X.pn ++ pins))) S3 hg hm hv q hnn hdbg
        refine test (LM.here ?_)
        cases b with
        | true =>
          refine codeAny_handlers_suite_as ?_
          refine HandSPX.lands_againZ fl3 fun h4 fl4 up4 => ?_
          have J4 : Inv X pins σ' H' { s' with heap := h4 } := J.landed nb fl4.1 ((up.trans up3).trans up4) os ag
          obtain ⟨oe4, vs4, he4, hz4, hd4⟩ := fl4.there
          have S4 := J4.suite he4 hd4 na nL nF
          refine store_ok (X := X.suite a ((a, oe4) :: (X.pn ++ pins))) (v := .ref a) S4 hN hi (.inl hln) rfl (fun s5 S5 => ?_) (.inr hln)
          refine wpAny_mono ((hsu a oe4 cls d (X.pn ++ pins) hz4 ⟨_, hd4⟩).run [] s5 _ H' _ S5 (hyes rfl a na)) (fun f s6 hsp => ?_) (fun _ _ z => False.elim z)
          have gone : ∀ {σ6 : L2.St} {H6 : Hp} {Q : Shared → Prop}, Inv (X.suite a ((a, oe4) :: (X.pn ++ pins))) [] σ6 H6 s6 → (∀ s7, Inv X pins (σ6.set i none) H6 s7 → Q s7) →
              wpAny (model X.prog X.w) X.A (do bindName X.env n .none; unbindBehindTheSuite X.env n pos') (fun _ s7 => Q s7) X.xe s6 := by
            intro σ6 H6 Q S6 hq
            exact gone_ok (S6.unsuite ok) hN hi hln hq
          cases f with
          | next =>
            obtain ⟨σ6, H6, S6, q6⟩ := hsp
            exact gone S6 fun s7 J7 => ⟨_, _, J7, q6⟩
          | brk =>
            obtain ⟨σ6, H6, S6, q6⟩ := hsp
            exact gone S6 fun s7 J7 => ⟨_, _, J7, q6⟩
          | cont =>
            obtain ⟨σ6, H6, S6, q6⟩ := hsp
            exact gone S6 fun s7 J7 => ⟨_, _, J7, q6⟩
          | ret u =>
            obtain ⟨v6, σ6, H6, S6, r6, q6⟩ := hsp
            exact gone S6 fun s7 J7 => ⟨_, _, _, J7, r6, q6⟩
        | false =>
          show wpAny _ X.A (handleBy (.ref a) X.env hds2) _ _ _
          exact ih (hno rfl)
    exact go hh wsh
  refine wpAny_Try_except ?_
  refine wpAny_mono ((hb (wManyA X.K Wout D l) (X.pn ++ pins) after takes PassesOwn.looking).run [] s σ H D (I.toTry _) h) (fun f s1 hsp => ?_) (fun e s1 he => he)
  cases f with
  | next =>
    obtain ⟨σ', H', J', q⟩ := hsp
    exact wpAny_execs_nil ⟨σ', H', J'.ofTry ok, q⟩
  | brk =>
    obtain ⟨σ', H', J', q⟩ := hsp
    exact ⟨σ', H', J'.ofTry ok, q⟩
  | cont =>
    obtain ⟨σ', H', J', q⟩ := hsp
    exact ⟨σ', H', J'.ofTry ok, q⟩
  | ret u =>
    obtain ⟨v, σ', H', J', r, q⟩ := hsp
    exact ⟨v, σ', H', J'.ofTry ok, r, q⟩
end
/-! ### isinstance of a caught error, with a dict of its own or without -/
section
open PySem.W (InstAt KitX findIn specialIn takesIn mroIn subIn hasDictIn clsIn)
variable {prog : Program} {w : World} {A : Around} {E : Value → Shared → Prop} {s : Shared} {K : PySem.W.Frag} {x D : Addr} {ox od : Obj}
theorem kin_classD {Q : Option Value → Shared → Prop} (T : ExcC K D) (X : K.In s.heap) (I : InstAt s.heap x ox D (some od)) (h : Q (some (.ref D)) { s with toks := s.toks + 1 }) : wpAny (model prog w) A (getAttr? (.ref x) "__class__") Q E s := by
  have hcD : (clsIn K D).isSome = true := by
    obtain ⟨cd, hc, _⟩ := PySem.W.any_some T.hd
    rw [hc]
    rfl
  have hf := PySem.W.findObj_data (od := od) hcD T.ha T.hn T.ht
  obtain ⟨hp, g, d, t, os⟩ := s
  have L0 := I.type (M := model prog w)
  have L1 := PySem.W.looks_findIn (M := model prog w) X T.hg
  have L2 := PySem.W.looks_findIn (M := model prog w) X T.hk
  have L3 := PySem.W.looks_find (M := model prog w) X I hf
  have sub : PySem.W.Looks (model prog w) hp (isInstance (.ref x) (.type "BaseException")) true := L0.andThen (PySem.W.looks_subIn X T.hs)
  have hx0 : (false && onTheHeap (Value.builtin "BaseException.__getattribute__")) = false := rfl
  have hx2 : (Value.builtin "BaseException.__getattribute__" == Value.builtin "object.__getattribute__") = false := by decide +kernel
  have hx1 : (onTheHeap (Value.ref D) && Value.builtin "BaseException.__getattribute__" == Value.builtin "object.__getattribute__") = false := by
    rw [hx2]
    rfl
  unfold getAttr? getAttrBy? getAttrBy
  refine wpAny_bind (wpAny_mkText (wpAny_bind (wpAny_attempt (wpAny_holding (wpAny_bind (L0.at (wpAny_bind (L1.at ?_))))))))
  show wpAny _ _ (if (onTheHeap (Value.ref D) && Value.builtin "BaseException.__getattribute__" == Value.builtin "object.__getattribute__") = true then _ else _) _ _ _
  rw [hx1, if_neg Bool.false_ne_true]
  unfold getAttrByItsOwn hookBefore
  refine wpAny_bind ?_
  have hon : onTheHeap (Value.ref D) = true := rfl
  rw [if_pos hon]
  refine L2.at ?_
  refine wpAny_bind (wpAny_attempt (wpAny_holding ?_))
  unfold callGetattribute
  rw [hx0, if_neg Bool.false_ne_true]
  unfold boundAndCalled
  rw [PySem.F.excAttr_ValueError.ga.bind (.ref x)]
  refine wpAny_bind (wpAny_pure ?_)
  show wpAny _ _ (call (.builtin "BaseException.__getattribute__") [.ref x, .str "__class__" t]) _ _ _
  refine wpAny_call (codeAny_call_builtin PySem.F.excAttr_ValueError.ga.plain PySem.F.entry_bexc_ga ?_)
  refine @PySem.W.check_slot (model prog w) _ _ ⟨hp, g, d, t + 1, os⟩ "BaseException.__getattribute__" "BaseException" "__getattribute__" (.ref x) [.str "__class__" t] [] _ (by decide +kernel) (by decide +kernel) sub (PySem.F.args_bexc_ga (.ref x) (.str "__class__" t)) ?_
  unfold Builtin.«object.__getattribute__»
  refine wpAny_bind (wpAny_of_eq (a := ((Value.ref x : Value), [Value.str "__class__" t])) (by first | rfl | (simp only [slotArgs]; rfl)) ?_)
  refine wpAny_bind (wpAny_pure (wpAny_bind (L0.at (wpAny_bind (L3.at ?_)))))
  show wpAny _ _ (holding [Value.builtin "object.__class__"] (call (.builtin "getset_descriptor.__get__") [.builtin "object.__class__", .ref x, .ref D]) >>= ret) _ _ _
  refine wpAny_bind (wpAny_holding (wpAny_call (PySem.W.class_get (s := ⟨hp, g, d, t + 1, os⟩) (ox := ox) (od := some od) X I T.hm ?_)))
  refine wpAny_pure ?_
  show wpAny _ _ (handedOut (.ref D)) _ _ _
  rw [PySem.W.handedOut_of (v := .ref D) rfl]
  first
    | exact wpAny_pure (wpAny_pure h)
    | exact wpAny_pure h
    | exact wpAny_pure (wpAny_bind (wpAny_pure (wpAny_pure h)))
theorem kitx_excD (T : ExcC K D) : KitX K (.ref x) (.ref D) (fun h => InstAt h x ox D (some od)) where
  ty := fun _ _ _ I => I.type
  it := by
    intro M h X _
    obtain ⟨cdD, hcD, _⟩ := PySem.W.any_some T.hd
    unfold PySem.W.clsIn at hcD
    split at hcD
    · rename_i c' d' cd' sl' ho
      intro A' Q' E' s' k q
      unfold isType loadHead
      exact wpAny_bind (wpAny_loadPart (k _ _ (X _ _ ho)) (wpAny_pure q))
    · cases hcD
  ne := (PySem.W.handS_kitx_exc (x := x) (ox := ox) T.hg T.hk T.hs T.hd T.ha T.hn T.ht T.hm).ne
  ca := fun X I k => kin_classD T X I k
end
/-- isinstance(e, c), e the caught error of the class at D, its dict at dd -/
def rIsD (K : PySem.W.Frag) (D a dd : Addr) : List V → Hp → VK → Prop := fun xs H Q => ∃ (c : V) (cv : Value) (b : Bool) (fs : List (Str × V)), xs = [.ref a, c] ∧ H dd = some (.xd fs) ∧ (∀ u, RelV c u → u = cv) ∧ PySem.W.kitOne K (.ref D) cv = some b ∧ Q (.bl b) H
theorem call_isD {X : Cx} {a D dd : Addr} {oe : Obj} {pn : List (Addr × Obj)} (C : ExcC X.K D) (hz : Zc (.ref D) (some dd) oe) (hf : ∃ vs, oe.data = .fields vs) : CallR (X.suite a ((a, oe) :: pn)) (.builtin "isinstance") (rIsD X.K D a dd) := by
  intro pins s σ H xs us Q I r h
  obtain ⟨c, cv, b, fs, rfl, hdd, hcv, e, q⟩ := h
  cases r with
  | cons rx rr =>
    cases rr with
    | cons rt rr =>
      cases rr
      cases rx
      have ec := hcv _ rt
      subst ec
      obtain ⟨hget, _⟩ := I.pin (a, oe) (List.mem_append.mpr (.inl List.mem_cons_self))
      obtain ⟨vs, hv⟩ := hf
      obtain ⟨mA, hns, hr⟩ := (show ObjOk X.prog X.w H s.heap dd (.xd fs) from I.hok dd _ hdd)
      obtain ⟨od, ho, hl⟩ := lookIn_ns hns
      have J : PySem.W.InstAt s.heap a oe D (some od) := by
        obtain ⟨oc, oo, oda, osl⟩ := oe
        obtain ⟨h1, h2⟩ := hz
        dsimp only at h1 h2 hv
        subst h1 h2 hv
        exact ⟨hget, rfl, rfl, ho⟩
      exact PySem.W.kia_one (kitx_excD C) I.kIn J e (fun z => nomatch z) fun tk => ⟨.bl b, H, I.kept (t' := tk) fun _ _ z => z, rfl, q⟩
/-! ### the same for whatever the clause has caught -/
def rIsX (K : PySem.W.Frag) (a : Addr) (cls : Value) (d : Option Addr) : List V → Hp → VK → Prop := fun xs H Q => ∃ (D : Addr) (c : V) (cv : Value) (b : Bool), cls = .ref D ∧ ExcC K D ∧ (∀ dd, d = some dd → ∃ fs, H dd = some (.xd fs)) ∧ xs = [.ref a, c] ∧ (∀ u, RelV c u → u = cv) ∧ PySem.W.kitOne K (.ref D) cv = some b ∧ Q (.bl b) H
theorem call_isX {X : Cx} {a : Addr} {cls : Value} {d : Option Addr} {oe : Obj} {pn : List (Addr × Obj)} (hz : Zc cls d oe) (hf : ∃ vs, oe.data = .fields vs) : CallR (X.suite a ((a, oe) :: pn)) (.builtin "isinstance") (rIsX X.K a cls d) := by
  intro pins s σ H xs us Q I r h
  obtain ⟨D, c, cv, b, rfl, C, hd, rfl, hcv, e, q⟩ := h
  cases d with
  | none => exact call_isE C hz hf pins s σ H _ us Q I r ⟨c, cv, b, rfl, hcv, e, q⟩
  | some dd =>
    obtain ⟨fs, hfs⟩ := hd dd rfl
    exact call_isD C hz hf pins s σ H _ us Q I r ⟨c, cv, b, fs, rfl, hfs, hcv, e, q⟩
/-- an own class as the second of isinstance -/
theorem kit_c {K : PySem.W.Frag} {t : Value} {C : Addr} {b : Bool} (h1 : PySem.W.isClsIn K C = true) (h2 : PySem.W.typeIn K (.ref C) = some (.type "type")) (h3 : PySem.W.subIn K t (.ref C) = some b) (h4 : (t == Value.ref C) = true → b = true) : PySem.W.kitOne K t (.ref C) = some b := by
  unfold PySem.W.kitOne
  by_cases h : (t == Value.ref C) = true
  · rw [if_pos h, h4 h]
  · rw [if_neg h]
    unfold PySem.W.kitCls
    have e : ((PySem.W.clsIn K C).isSome && PySem.W.typeIn K (.ref C) == some (.type "type")) = true := by
      unfold PySem.W.isClsIn at h1
      rw [h1, h2]
      rfl
    simp only [e, if_true]
    exact h3
/-- what a clause asks: the class of the error, the clause's class -/
theorem exm_c {K : PySem.W.Frag} {t : Value} {C : Addr} {b : Bool} (h0 : PySem.W.subIn K (.ref C) (.type "BaseException") = some true) (h1 : PySem.W.isClsIn K C = true) (h2 : PySem.W.typeIn K (.ref C) = some (.type "type")) (h3 : PySem.W.subIn K t (.ref C) = some b) : PySem.W.exmOne K t (.ref C) = some b := by
  unfold PySem.W.exmOne
  have e0 : (PySem.W.subIn K (.ref C) (.type "BaseException") == some true) = true := by
    rw [h0]
    rfl
  rw [if_pos e0]
  unfold PySem.W.kitCls
  have e : ((PySem.W.clsIn K C).isSome && PySem.W.typeIn K (.ref C) == some (.type "type")) = true := by
    unfold PySem.W.isClsIn at h1
    rw [h1, h2]
    rfl
  simp only [e, if_true]
  exact h3
/-! ### own == and len, a tuple turned round -/
section

theorem rng_rev (l : List Value) : ∀ n, n ≤ l.length → (List.range n).filterMap (fun k => l.reverse[k]?) = l.reverse.take n := by
  intro n
  induction n with
  | zero =>
    intro _
    simp
  | succ n ih =>
    intro h
    rw [List.range_succ, List.filterMap_append, ih (by omega)]
    have hn : n < l.reverse.length := by
      rw [List.length_reverse]
      omega
    have e : [n].filterMap (fun k => l.reverse[k]?) = [l.reverse[n]] := by
      rw [List.filterMap_cons, List.getElem?_eq_getElem hn]
      rfl
    rw [e, ← List.take_append_getElem hn]
theorem pick_rev (xs : Array Value) : ((List.range xs.size).filterMap fun (m : Nat) => xs[(((xs.size : Int) - 1) + (m : Int) * (-1)).toNat]?).toArray = xs.toList.reverse.toArray := by
  have e : (List.range xs.size).filterMap (fun (m : Nat) => xs[(((xs.size : Int) - 1) + (m : Int) * (-1)).toNat]?) = (List.range xs.size).filterMap (fun k => xs.toList.reverse[k]?) := by
    have fc : ∀ (f g : Nat → Option Value) (l : List Nat), (∀ m, m ∈ l → f m = g m) → l.filterMap f = l.filterMap g := by
      intro f g l
      induction l with
      | nil => exact fun _ => rfl
      | cons a l ih =>
        intro h
        rw [List.filterMap_cons, List.filterMap_cons, h a (List.mem_cons_self ..), ih fun m hm => h m (List.mem_cons_of_mem _ hm)]
    refine fc _ _ _ fun m hm => ?_
    have h := List.mem_range.mp hm
    have h1 : (((xs.size : Int) - 1) + (m : Int) * (-1)).toNat = xs.size - 1 - m := by omega
    rw [h1, List.getElem?_reverse (by rw [Array.length_toList]; exact h), Array.length_toList, Array.getElem?_toList]
  rw [e, rng_rev xs.toList xs.size (by rw [Array.length_toList]; exact Nat.le_refl _), List.take_of_length_le (by rw [List.length_reverse, Array.length_toList]; exact Nat.le_refl _)]
section
variable {prog : Program} {w : World} {A : Around} {E : Value → Shared → Prop} {s : Shared}
theorem sliceApplied_rev {sl : Addr} {vs : Value} {n : Nat} {Q : Int × Int × Nat → Shared → Prop} (hs : s.heap.IsSliceOf sl .none .none vs) (ps : IsPart vs (some (-1)))
    (h : Q ((n : Int) - 1, -1, n) s) : wpAny (model prog w) A (Builtin.Slice.sliceApplied (.ref sl) (pure (n : Int))) Q E s := by
  obtain ⟨os, hos, hcs, hds⟩ := id hs
  unfold Builtin.Slice.sliceApplied Builtin.Slice.sliceFields
  refine wpAny_bind (wpAny_bind (wpAny_field hos hds (x := .none) rfl (wpAny_bind (wpAny_field hos hds (x := .none) rfl (wpAny_bind (wpAny_field hos hds (x := vs) rfl (wpAny_pure ?_)))))))
  refine wpAny_bind (HT.slicePart_ ps ?_)
  show wpAny _ _ (if ((-1 : Int) == 0) = true then _ else _) _ _ s
  rw [if_neg (by decide)]
  refine wpAny_bind (slicePart_none (wpAny_bind (slicePart_none (wpAny_bind (wpAny_pure ?_)))))
  show wpAny _ _ (pure ((n : Int) - 1, (-1 : Int), Builtin.Slice.slicePlaces ((n : Int) - 1) (-1) (-1))) _ _ s
  have e : Builtin.Slice.slicePlaces ((n : Int) - 1) (-1) (-1) = n := by
    unfold Builtin.Slice.slicePlaces
    have h1 : ¬ ((-1 : Int) > 0) := by omega
    simp only [h1, if_false]
    split
    · have : ((n : Int) - 1 - -1 - 1) / (- -1) + 1 = n := by
        rw [show (- -1 : Int) = 1 from rfl, Int.ediv_one]
        omega
      rw [this]
      omega
    · omega
  rw [e]
  exact wpAny_pure h
theorem getItem_tuple_rev {t sl : Addr} {items : Array Value} {vs : Value} {Q : Value → Shared → Prop} (ht : IsTup s.heap t items) (hs : s.heap.IsSliceOf sl .none .none vs) (ps : IsPart vs (some (-1)))
    (h : Q (.ref s.heap.objs.size) { s with heap := s.heap.push { cls := .type "tuple", data := .seq items.toList.reverse.toArray } })
    (hsz : items.size ≤ sizeLine) : wpAny (model prog w) A (getItem (.ref t) (.ref sl)) Q E s := by
  have htake : sizeOk (.seq items.toList.reverse.toArray) := by
    show items.toList.reverse.toArray.size ≤ sizeLine
    rw [List.size_toArray, List.length_reverse, Array.length_toList]
    exact hsz
  obtain ⟨os, hos, hcs, hds⟩ := id hs
  have hTs : s.TypeIs (.ref sl) "slice" := ⟨os, hos, hcs⟩
  unfold getItem
  try with_reducible refine wpAny_holding ?_
  first | refine wpAny_bind (wpAny_pure ?_) | skip
  refine wpAny_bind (wpAny_sequenceKey ht.typeIs (by decide) ?_)
  refine wpAny_bind (wpAny_callSpecial?_slot (name := Str.ofString "__getitem__") ht.typeIs PyProof.Rows.slot_tuple_getitem
    (wpAny_call_entry PyProof.Rows.slot_tuple_getitem ht.typeIs entry_tuple_getitem ?_ (args_tuple_getitem _ _)))
  show wpAny _ _ (Builtin.Tuple.tupleItemsOf (.ref t) >>= _) _ _ s
  refine wpAny_bind (tupleItemsOf_ ht ?_)
  refine wpAny_bind (wpAny_typeOf hTs ?_)
  rw [if_pos (by decide)]
  refine wpAny_bind (sliceApplied_rev hs ps ?_)
  have hno : ¬ ((((items.size : Int) - 1 == 0) && ((-1 : Int) == 1) && (items.size == items.size)) = true) := by
    intro q
    rw [Bool.and_eq_true, Bool.and_eq_true] at q
    exact absurd q.1.2 (by decide)
  show wpAny _ _ (if (((items.size : Int) - 1 == 0) && ((-1 : Int) == 1) && (items.size == items.size)) = true then _ else _) _ _ s
  rw [if_neg hno, pick_rev]
  first
    | exact wpAny_bind (m := Builtin.Tuple.tupleExact _) (wpAny_newObj_type (wpAny_pure ⟨_, rfl, wpAny_pure h⟩) htake)
    | exact wpAny_bind (m := Builtin.Tuple.tupleExact _) (wpAny_newObj_type (wpAny_bind (wpAny_pure (wpAny_pure ⟨_, rfl, wpAny_pure h⟩))) htake)
    | exact wpAny_bind (wpAny_bind (m := Builtin.Tuple.tupleExact _) (wpAny_newObj_type (wpAny_pure (wpAny_pure ⟨_, rfl, wpAny_pure h⟩)) htake))
    | exact wpAny_bind (wpAny_bind (m := Builtin.Tuple.tupleExact _) (wpAny_newObj_type (wpAny_pure ⟨_, rfl, wpAny_pure h⟩) htake))
end
section
variable {X : Cx}
def tRevT (K : PySem.W.Frag) (te : TE) : TE := fun σ H Q => te σ H fun x H1 => ∃ a xs, x = .ref a ∧ SqT K H1 a xs ∧ ∀ p, H1 p = none → Q (.ref p) (upd H1 p (.tup xs.reverse))
theorem pe_revT {e : Expr} {te : TE} {k : Nat} {p1 p2 p3 pos : Pos} (he : PE X e te) : PE X (.Subscript e (.Slice none none (some (.UnaryOp .USub (.Constant (.int 1) k p1) p2)) p3) pos) (tRevT X.K te) := by
  refine ⟨fun pins s σ H Q I h => ?_⟩
  refine Subscript_ (thn (he.run pins s σ H _ I h) fun v s1 ⟨x, H1, I1, r1, q1⟩ => ?_)
  obtain ⟨a, xs, ex, hx, q⟩ := q1
  subst ex
  cases r1
  have hst : PO X (some (.UnaryOp .USub (.Constant (.int 1) k p1) p2)) (tPart (tUn (rU fun i => .int (-i)) (tC (.int 1)))) := po_some (pe_un un_neg pe_int)
  refine wpAny_Slice (thn (po_none.run pins s1 σ H1 (fun o H2 => o = none ∧ H2 = H1) I1 ⟨rfl, rfl⟩) fun vl s2 ⟨l, H2, I2, pl, el, e2⟩ => ?_)
  subst el e2
  refine thn (po_none.run pins s2 σ H2 (fun o H3 => o = none ∧ H3 = H2) I2 ⟨rfl, rfl⟩) fun vu s3 ⟨u, H3, I3, pu, eu, e3⟩ => ?_
  subst eu e3
  refine thn (hst.run pins s3 σ H3 (fun o H4 => o = some (-1) ∧ H4 = H3) I3 ⟨1, rfl, -1, rfl, rfl, rfl⟩) fun vs s4 ⟨o, H4, I4, ps, eo, e4⟩ => ?_
  subst eo e4
  have I5 : Inv X pins σ H4 { s4 with heap := s4.heap.push { cls := .type "slice", data := .fields #[vl, vu, vs] } } := I4.kept (t' := s4.toks) fun b ob q => Heap.get?_push_of_some _ q
  obtain ⟨its, r, ht, hz⟩ := I5.tuple hx
  have hlen := r.length
  cases pl
  cases pu
  show wpAny (model X.prog X.w) X.A (subscriptTail e (.Slice none none (some (.UnaryOp .USub (.Constant (.int 1) k p1) p2)) p3) (.ref a) (.ref s4.heap.objs.size)) (EP X pins σ Q) X.xe { s4 with heap := s4.heap.push { cls := .type "slice", data := .fields #[.none, .none, vs] } }
  refine tail_any (ops := [.ref a, .ref s4.heap.objs.size]) ht.typeIs (PyProof.Rows.slot_tuple_getitem.lookup) ?_ (by with_unfolding_all rfl)
  refine getItem_tuple_rev ht (Heap.IsSliceOf.new _ .none .none vs) ps ?_ (by rw [List.size_toArray]; omega)
  refine ⟨.ref _, _, I5.laid (t' := s4.toks) (o := .tup xs.reverse) (fun b ob q => Heap.get?_push_of_some _ q) (Nat.le_refl _) ?_, rfl, q _ (I5.hok.fresh (Nat.le_refl _))⟩
  exact ⟨by rw [List.length_reverse]; exact hz, _, r.reverse, IsTup.new _ _⟩
/-- x == y, x an instance with the text's own ==, y of a known type, not of a class below -/
def rEqOwn (K : PySem.W.Frag) (C : Addr) (sp : Sp) (E : XK) : R2 := fun x y H Q => ∃ a dx fs t, x = .ref a ∧ H a = some (.ins C dx fs) ∧ TyX K H y t ∧ PySem.W.notFirst K C t = true ∧ sp [x, y] H (fun v H' => ∃ b, v = .bl b ∧ Q v H') E
theorem op_eqOwn {CX : CXT} {C f : Addr} {fd : FuncData} {ps : List Str} {n : Nat} {sp : Sp} {E : XK} (F : FnOk X.prog X.w X.K X.mg X.base CX n f fd ps sp) (hr : Room n X.A)
    (hs : PySem.W.findIn X.K (.ref C) "__eq__" = some (some (.ref f))) (hf : PySem.W.isFn X.K (.ref f) = true) (hb : Binds X.K fd ps []) (hx : Passes CX X E) : OpR X (compareOp .Eq) (rEqOwn X.K C sp E) := by
  intro pins s σ H x y v u Q I rx ry h
  obtain ⟨a, dx, fs, t, rfl, ha, ty, hn, q⟩ := h
  cases (show v = Value.ref a from rx)
  obtain ⟨mA, J, _⟩ := ins_get I.hok ha
  obtain ⟨od, J, _⟩ := J.look
  obtain ⟨P, Z, p, _⟩ := kit_of I ry ty
  obtain ⟨m, hF⟩ := I.fr
  show wpAny (model X.prog X.w) X.A (richCompare .Eq (.ref a) u) (EP X pins σ Q) X.xe s
  refine PySem.W.cmp_K (op := .Eq) (tb := t) hr.units0 hF I.ok.mod.kin J (Z.ty _ _ I.kIn p) hn hs hf ?_
  refine wpAny_mono (run_fn (us := [.ref a, u]) (vs := [.ref a, y]) F hr hb .nil hx I (.cons rfl (.cons ry .nil)) (by rw [List.append_nil]; exact q)) (fun w s' z => ?_) fun _ _ x => x
  obtain ⟨z', H', I', rz, b, ez, qz⟩ := z
  subst ez
  cases (show w = Value.bool b from rz)
  exact ⟨.bl b, H', I', rfl, qz⟩
/-- len(x), x an instance with the text's own __len__ -/
def rLenOwn (C : Addr) (sp : Sp) (E : XK) : List V → Hp → VK → Prop := fun xs H Q => ∃ a dx fs, xs = [V.ref a] ∧ H a = some (.ins C dx fs) ∧ sp [.ref a] H (fun v H' => ∃ i : Int, v = .int i ∧ (0 ≤ i ∧ i < 2 ^ 63) ∧ Q v H') E
theorem call_lenOwn {CX : CXT} {C f : Addr} {fd : FuncData} {ps : List Str} {n : Nat} {sp : Sp} {E : XK} (F : FnOk X.prog X.w X.K X.mg X.base CX n f fd ps sp) (hr : Room (n + 1) X.A)
    (hs : PySem.W.findIn X.K (.ref C) "__len__" = some (some (.ref f))) (hf : PySem.W.isFn X.K (.ref f) = true) (hb : Binds X.K fd ps []) (hx : Passes CX X E) : CallR X (.builtin "len") (rLenOwn C sp E) := by
  intro pins s σ H xs us Q I r h
  obtain ⟨a, dx, fs, rfl, ha, q⟩ := h
  obtain ⟨u, rfl, ru⟩ := r.one
  cases (show u = Value.ref a from ru)
  obtain ⟨mA, J, _⟩ := ins_get I.hok ha
  obtain ⟨od, J, _⟩ := J.look
  obtain ⟨m, hF⟩ := I.fr
  have hsp : sp ([V.ref a] ++ []) H (fun v H' => ∃ i : Int, v = .int i ∧ (0 ≤ i ∧ i < 2 ^ 63) ∧ Q v H') E := by
    rw [List.append_nil]
    exact q
  have b := hb s [.ref a] I.kIn (by rw [List.append_nil]; exact (F.len _ _ _ _ q))
  rw [List.append_nil] at b
  refine PySem.W.len_K hF I.ok.mod.kin J hs hf (wpAny_call (codeAny_mono (F.run X.A.in1 X.stack s H ⟨[.ref a], []⟩ [.ref a] [.ref a] _ E hr.in1 I.env0.in1 b (.cons rfl .nil) q) fun r s' hq => ?_))
  cases r with
  | error e => exact hx pins σ H s e s' I hq
  | ok fl =>
    cases fl with
    | ret w =>
      obtain ⟨z, H', I', rz, i, ez, hi, qz⟩ := I.after hq
      subst ez
      obtain ⟨t, e⟩ := (show ∃ t, w = Value.int i t from rz)
      cases e
      exact ⟨hi, .int i, H', I'.tok _, ⟨_, rfl⟩, qz⟩
    | next => exact False.elim hq
    | brk => exact False.elim hq
    | cont => exact False.elim hq
end
end
section
variable {X : Cx} {CX : CXT} {k : Nat} {f C : Addr} {fd : FuncData} {ps : List Str} {sp : Sp} {E : St → XK} {x : Str} {p pos : Pos} {e : Expr} {es : List Expr} {t : TA}
/-- C(e, ..) inside a try's body: E by the slots -/
def tMakeS (C : Addr) (sp : Sp) (E : St → XK) (t : TA) : TE := fun σ H Q => t σ H (mkO C sp (E σ) Q)
theorem run_makeS {pins : List (Addr × Obj)} {σ : St} {H : Hp} {s : Shared} {Q : VK} {us : List Value} {vs : List V} (M : Mk X.K C f) (F : FnOk X.prog X.w X.K X.mg X.base CX k f fd ps sp) (hr : Room (k + 1) X.A) (hb : Binds X.K fd ps [])
    (hx : PassesAt CX X σ (E σ)) (I : Inv X pins σ H s) (r : Vals vs us) (h : mkO C sp (E σ) Q vs H) : wpAny (model X.prog X.w) X.A (call (.ref C) us) (EP X pins σ Q) X.xe s := by
  have hq := h (s.heap.objs.size + 1) s.heap.objs.size (I.hok.fresh (Nat.le_succ _)) (I.hok.fresh (Nat.le_refl _)) (Nat.ne_of_lt (Nat.lt_succ_self _))
  have I2 := Inv.made (C := C) I
  have r2 : Vals (V.ref (s.heap.objs.size + 1) :: vs) (Value.ref (s.heap.objs.size + 1) :: us) := .cons rfl r
  have hl : (Value.ref (s.heap.objs.size + 1) :: us).length = ps.length := by
    have e := r2.length
    rw [F.len _ _ _ _ hq] at e
    exact e.symm
  have b := hb _ (Value.ref (s.heap.objs.size + 1) :: us) I2.kIn (by rw [List.append_nil]; exact hl)
  rw [List.append_nil] at b
  refine wpAny_call (make_map (f := f) I.kIn M.makes M.init (beq_iff_eq.mp M.fn) (codeAny_mono (F.run _ X.stack _ _ ⟨Value.ref (s.heap.objs.size + 1) :: us, []⟩ (Value.ref (s.heap.objs.size + 1) :: us) _ _ (E σ) (hr.make C us [])
    (I2.env0.make C us []) b r2 hq) fun r s' hq' => ?_))
  cases r with
  | error e => exact hx pins _ _ e s' I2 hq'
  | ok fl =>
    cases fl with
    | ret u =>
      obtain ⟨v, H', I3, rv, ev, q3⟩ := I2.after hq'
      subst ev
      exact ⟨rv, ⟨V.ref (s.heap.objs.size + 1), H', I3, rfl, q3⟩⟩
    | next => exact False.elim hq'
    | brk => exact False.elim hq'
    | cont => exact False.elim hq'
theorem pe_makeS (M : Mk X.K C f) (F : FnOk X.prog X.w X.K X.mg X.base CX k f fd ps sp) (hr : Room (k + 1) X.A) (hg : Gl X x) (hm : X.mg x = some (.ref C)) (hb : Binds X.K fd ps []) (hx : ∀ σ, PassesAt CX X σ (E σ))
    (ha : PA X (e :: es) t) (hdb : (x == ("__debug__" : Str)) = false := by decide) (he : starEach (e :: es) X.env = (false, eval e X.env) :: starEach es X.env := by rfl) (hpl : (backTo pos (starEach es X.env)).any (·.1) = false := by rfl) :
    PE X (.Call (.Name x p) (e :: es) [] pos) (tMakeS C sp E t) := by
  refine ⟨fun pins s σ H Q I h => ?_⟩
  refine wpAny_Call_Name_kw (ld_glob I hg hm ?_ hdb)
  refine PySem.W.callWith_K (h₀ := X.base) I.ok.mod.kin M.kp (thn (ha.run pos pins s σ H _ I h) fun us s1 ⟨vs, H1, I1, r, q⟩ => ⟨I1.kIn, ?_⟩) he hpl
  exact run_makeS M F hr hb (hx σ) I1 r q
end
def topS (i : Nat) : Stmt := PySem.Challenge.pw_butfewrows_k01_machines_refused.main.body.getD i (.Pass ⟨0, 0, 0, 0⟩)
abbrev s_is_below : Stmt := topS 1
abbrev s_are_below : Stmt := topS 2
abbrev s_BadSteps_init : Stmt := inClass (topS 5) 0
abbrev s_told : Stmt := topS 7
abbrev s_Machine_init : Stmt := inClass (topS 11) 0
abbrev s_Machine_steps : Stmt := inClass (topS 11) 1
abbrev s_Machine_good : Stmt := inClass (topS 11) 2
abbrev s_Machine_len : Stmt := inClass (topS 11) 3
abbrev s_Machine_eq : Stmt := inClass (topS 11) 4
abbrev s_check_steps : Stmt := topS 12
abbrev s_are_leads : Stmt := topS 13
abbrev s_check_good : Stmt := topS 14
abbrev s__law_mix : Stmt := topS 16
abbrev s__law_next : Stmt := topS 17
abbrev s__law_alike : Stmt := topS 18
abbrev s__law_pick : Stmt := topS 19
abbrev s__law_parts : Stmt := topS 20
abbrev s__law_stand : Stmt := topS 21
abbrev s__law_fault : Stmt := topS 22
abbrev s__law_tried : Stmt := topS 23
abbrev s__law_spoilt : Stmt := topS 24
abbrev s_law : Stmt := topS 25
theorem sc_is_below : FnScope ["value", "limit"] ["value", "limit"] (defScope s_is_below) := ⟨rfl, rfl, rfl, by decide +kernel, rfl, by decide +kernel, by decide +kernel⟩
theorem sc_are_below : FnScope ["values", "limit", "value"] ["values", "limit"] (defScope s_are_below) := ⟨rfl, rfl, rfl, by decide +kernel, rfl, by decide +kernel, by decide +kernel⟩
theorem sc_BadSteps_init : NdefX.NScope ["self", "index", "__class__"] ["self", "index"] ["__class__"] (defScope s_BadSteps_init) := NdefX.nscope_by (by decide +kernel)
theorem sc_told : FnScope ["index"] ["index"] (defScope s_told) := ⟨rfl, rfl, rfl, by decide +kernel, rfl, by decide +kernel, by decide +kernel⟩
theorem sc_Machine_init : FnScope ["self", "steps", "good"] ["self", "steps", "good"] (defScope s_Machine_init) := ⟨rfl, rfl, rfl, by decide +kernel, rfl, by decide +kernel, by decide +kernel⟩
theorem sc_Machine_steps : FnScope ["self"] ["self"] (defScope s_Machine_steps) := ⟨rfl, rfl, rfl, by decide +kernel, rfl, by decide +kernel, by decide +kernel⟩
theorem sc_Machine_good : FnScope ["self"] ["self"] (defScope s_Machine_good) := ⟨rfl, rfl, rfl, by decide +kernel, rfl, by decide +kernel, by decide +kernel⟩
theorem sc_Machine_len : FnScope ["self"] ["self"] (defScope s_Machine_len) := ⟨rfl, rfl, rfl, by decide +kernel, rfl, by decide +kernel, by decide +kernel⟩
theorem sc_Machine_eq : FnScope ["self", "other"] ["self", "other"] (defScope s_Machine_eq) := ⟨rfl, rfl, rfl, by decide +kernel, rfl, by decide +kernel, by decide +kernel⟩
theorem sc_check_steps : FnScope ["steps", "index", "leads"] ["steps"] (defScope s_check_steps) := ⟨rfl, rfl, rfl, by decide +kernel, rfl, by decide +kernel, by decide +kernel⟩
theorem sc_are_leads : FnScope ["leads", "stands"] ["leads", "stands"] (defScope s_are_leads) := ⟨rfl, rfl, rfl, by decide +kernel, rfl, by decide +kernel, by decide +kernel⟩
theorem sc_check_good : FnScope ["good", "stands", "one", "other"] ["good", "stands"] (defScope s_check_good) := ⟨rfl, rfl, rfl, by decide +kernel, rfl, by decide +kernel, by decide +kernel⟩
theorem sc__law_mix : FnScope ["_law_script", "_law_seed", "_law_state", "_law_cell"] ["_law_script", "_law_seed"] (defScope s__law_mix) := ⟨rfl, rfl, rfl, by decide +kernel, rfl, by decide +kernel, by decide +kernel⟩
theorem sc__law_next : FnScope ["_law_h", "_law_cap", "_law_cell"] ["_law_h", "_law_cap"] (defScope s__law_next) := ⟨rfl, rfl, rfl, by decide +kernel, rfl, by decide +kernel, by decide +kernel⟩
theorem sc__law_alike : FnScope ["_law_found", "_law_due", "_law_k"] ["_law_found", "_law_due"] (defScope s__law_alike) := ⟨rfl, rfl, rfl, by decide +kernel, rfl, by decide +kernel, by decide +kernel⟩
theorem sc__law_pick : FnScope ["_law_h", "_law_things"] ["_law_h", "_law_things"] (defScope s__law_pick) := ⟨rfl, rfl, rfl, by decide +kernel, rfl, by decide +kernel, by decide +kernel⟩
theorem sc__law_parts : FnScope ["_law_h", "_law_letters", "_law_many", "_law_early", "_law_steps", "_law_good", "_law_stand_here", "_law_low", "_law_letter"] ["_law_h", "_law_letters"] (defScope s__law_parts) := ⟨rfl, rfl, rfl, by decide +kernel, rfl, by decide +kernel, by decide +kernel⟩
theorem sc__law_stand : FnScope ["_law_thing", "_law_many"] ["_law_thing", "_law_many"] (defScope s__law_stand) := ⟨rfl, rfl, rfl, by decide +kernel, rfl, by decide +kernel, by decide +kernel⟩
theorem sc__law_fault : FnScope ["_law_steps", "_law_good", "_law_k", "_law_row", "_law_falls", "_law_one"] ["_law_steps", "_law_good"] (defScope s__law_fault) := ⟨rfl, rfl, rfl, by decide +kernel, rfl, by decide +kernel, by decide +kernel⟩
theorem sc__law_tried : FnScope ["_law_steps", "_law_good", "_law_found", "error"] ["_law_steps", "_law_good"] (defScope s__law_tried) := ⟨rfl, rfl, rfl, by decide +kernel, rfl, by decide +kernel, by decide +kernel⟩
theorem sc__law_spoilt : FnScope ["_law_h", "_law_steps", "_law_many", "_law_odd", "_law_change", "_law_spot", "_law_row", "_law_at", "_law_goal"] ["_law_h", "_law_steps"] (defScope s__law_spoilt) := ⟨rfl, rfl, rfl, by decide +kernel, rfl, by decide +kernel, by decide +kernel⟩
theorem sc_law : FnScope ["_law_script", "_law_h", "_law_turn", "_law_steps", "_law_good", "_law_many", "_law_odd", "_law_found", "_law_fault_here", "_law_goal"] ["_law_script"] (defScope s_law) := ⟨rfl, rfl, rfl, by decide +kernel, rfl, by decide +kernel, by decide +kernel⟩
/-- what the top has written -/
structure TxtP (P : Program) (K : PySem.W.Frag) (mg : Str → Option Value) where
  C_MachineError : Addr
  g_MachineError : mg "MachineError" = some (.ref C_MachineError)
  k_MachineError : PySem.W.keepIn K (.ref C_MachineError) = true
  r_MachineError : PySem.W.subIn K (.ref C_MachineError) (.type "BaseException") = some true
  t_MachineError : PySem.W.typeIn K (.ref C_MachineError) = some (.type "type")
  ic_MachineError : PySem.W.isClsIn K C_MachineError = true
  e_MachineError : ExcC K C_MachineError
  C_BadSteps : Addr
  g_BadSteps : mg "BadSteps" = some (.ref C_BadSteps)
  k_BadSteps : PySem.W.keepIn K (.ref C_BadSteps) = true
  r_BadSteps : PySem.W.subIn K (.ref C_BadSteps) (.type "BaseException") = some true
  t_BadSteps : PySem.W.typeIn K (.ref C_BadSteps) = some (.type "type")
  ic_BadSteps : PySem.W.isClsIn K C_BadSteps = true
  e_BadSteps : ExcC K C_BadSteps
  x_BadSteps : OexC K C_BadSteps
  f_BadSteps : XfC K C_BadSteps
  n_BadSteps_index : PySem.W.findIn K (.ref C_BadSteps) "index" = some none
  C_BadGood : Addr
  g_BadGood : mg "BadGood" = some (.ref C_BadGood)
  k_BadGood : PySem.W.keepIn K (.ref C_BadGood) = true
  r_BadGood : PySem.W.subIn K (.ref C_BadGood) (.type "BaseException") = some true
  t_BadGood : PySem.W.typeIn K (.ref C_BadGood) = some (.type "type")
  ic_BadGood : PySem.W.isClsIn K C_BadGood = true
  e_BadGood : ExcC K C_BadGood
  q_BadGood : PySem.W.excIn K C_BadGood [.type "ValueError", .type "Exception", .type "BaseException", .type "object"] "ValueError.__new__" = true
  z_all : mg "all" = none
  z_bool : mg "bool" = none
  z_enumerate : mg "enumerate" = none
  z_int : mg "int" = none
  z_isinstance : mg "isinstance" = none
  z_len : mg "len" = none
  z_list : mg "list" = none
  z_max : mg "max" = none
  z_min : mg "min" = none
  z_range : mg "range" = none
  z_str : mg "str" = none
  z_super : mg "super" = none
  z_tuple : mg "tuple" = none
  z_zip : mg "zip" = none
  t_MOST_STANDS : Tok
  g_MOST_STANDS : mg "MOST_STANDS" = some (.int 8 t_MOST_STANDS)
  t_MOST_LETTERS : Tok
  g_MOST_LETTERS : mg "MOST_LETTERS" = some (.int 3 t_MOST_LETTERS)
  C_Machine : Addr
  c_Machine : Cls K C_Machine
  g_Machine : mg "Machine" = some (.ref C_Machine)
  n_Machine__steps : NoAttr K C_Machine "_steps"
  n_Machine__good : NoAttr K C_Machine "_good"
  t_Machine : PySem.W.typeIn K (.ref C_Machine) = some (.type "type")
  ic_Machine : PySem.W.isClsIn K C_Machine = true
  ca_Machine : PySem.W.findIn K (.ref C_Machine) "__class__" = some (some (.builtin "object.__class__"))
  cn_Machine : PySem.W.specialIn K (.builtin "object.__class__") "__get__" = some (some (.builtin "getset_descriptor.__get__"))
  ct_Machine : PySem.W.takesIn K (.builtin "object.__class__") = some true
  cm_Machine : PySem.W.mroIn K C_Machine (.type "object") = some true
  sb_BadSteps_MachineError : PySem.W.subIn K (.ref C_BadSteps) (.ref C_MachineError) = some true
  sb_BadGood_MachineError : PySem.W.subIn K (.ref C_BadGood) (.ref C_MachineError) = some true
  sb_BadSteps_BadSteps : PySem.W.subIn K (.ref C_BadSteps) (.ref C_BadSteps) = some true
  sb_BadGood_BadSteps : PySem.W.subIn K (.ref C_BadGood) (.ref C_BadSteps) = some false
  sb_BadGood_BadGood : PySem.W.subIn K (.ref C_BadGood) (.ref C_BadGood) = some true
  sb_Machine_Machine : PySem.W.subIn K (.ref C_Machine) (.ref C_Machine) = some true
  sb_list_Machine : PySem.W.subIn K (.type "list") (.ref C_Machine) = some false
  sb_NoneType_Machine : PySem.W.subIn K (.type "NoneType") (.ref C_Machine) = some false
  sb_tuple_Machine : PySem.W.subIn K (.type "tuple") (.ref C_Machine) = some false
  a_is_below : Addr
  fd_is_below : FuncData
  F_is_below : Fun K "is_below" "is_below" s_is_below a_is_below fd_is_below
  b_is_below : Binds K fd_is_below ["value", "limit"] []
  g_is_below : mg "is_below" = some (.ref a_is_below)
  a_are_below : Addr
  fd_are_below : FuncData
  F_are_below : Fun K "are_below" "are_below" s_are_below a_are_below fd_are_below
  b_are_below : Binds K fd_are_below ["values", "limit"] []
  g_are_below : mg "are_below" = some (.ref a_are_below)
  a_BadSteps_init : Addr
  fd_BadSteps_init : FuncData
  F_BadSteps_init : FunS P K mg C_BadSteps "__init__" "BadSteps.__init__" s_BadSteps_init a_BadSteps_init fd_BadSteps_init
  b_BadSteps_init : Binds K fd_BadSteps_init ["self", "index"] []
  i_BadSteps : PySem.W.findIn K (.ref C_BadSteps) "__init__" = some (some (.ref a_BadSteps_init))
  t_BadSteps_init : PySem.W.typeIn K (.ref a_BadSteps_init) = some (.type "function")
  a_told : Addr
  fd_told : FuncData
  F_told : Fun K "told" "told" s_told a_told fd_told
  b_told : Binds K fd_told ["index"] []
  g_told : mg "told" = some (.ref a_told)
  a_Machine_init : Addr
  fd_Machine_init : FuncData
  F_Machine_init : Fun K "__init__" "Machine.__init__" s_Machine_init a_Machine_init fd_Machine_init
  b_Machine_init : Binds K fd_Machine_init ["self", "steps", "good"] []
  m_Machine : Mk K C_Machine a_Machine_init
  a_Machine_steps : Addr
  fd_Machine_steps : FuncData
  F_Machine_steps : Fun K "steps" "Machine.steps" s_Machine_steps a_Machine_steps fd_Machine_steps
  b_Machine_steps : Binds K fd_Machine_steps ["self"] []
  pa_Machine_steps : Addr
  p_Machine_steps : PropOf K C_Machine "steps" pa_Machine_steps a_Machine_steps
  a_Machine_good : Addr
  fd_Machine_good : FuncData
  F_Machine_good : Fun K "good" "Machine.good" s_Machine_good a_Machine_good fd_Machine_good
  b_Machine_good : Binds K fd_Machine_good ["self"] []
  pa_Machine_good : Addr
  p_Machine_good : PropOf K C_Machine "good" pa_Machine_good a_Machine_good
  a_Machine_len : Addr
  fd_Machine_len : FuncData
  F_Machine_len : Fun K "__len__" "Machine.__len__" s_Machine_len a_Machine_len fd_Machine_len
  b_Machine_len : Binds K fd_Machine_len ["self"] []
  m_Machine_len : Meth K C_Machine "__len__" a_Machine_len
  a_Machine_eq : Addr
  fd_Machine_eq : FuncData
  F_Machine_eq : Fun K "__eq__" "Machine.__eq__" s_Machine_eq a_Machine_eq fd_Machine_eq
  b_Machine_eq : Binds K fd_Machine_eq ["self", "other"] []
  m_Machine_eq : Meth K C_Machine "__eq__" a_Machine_eq
  a_check_steps : Addr
  fd_check_steps : FuncData
  F_check_steps : Fun K "check_steps" "check_steps" s_check_steps a_check_steps fd_check_steps
  b_check_steps : Binds K fd_check_steps ["steps"] []
  g_check_steps : mg "check_steps" = some (.ref a_check_steps)
  a_are_leads : Addr
  fd_are_leads : FuncData
  F_are_leads : Fun K "are_leads" "are_leads" s_are_leads a_are_leads fd_are_leads
  b_are_leads : Binds K fd_are_leads ["leads", "stands"] []
  g_are_leads : mg "are_leads" = some (.ref a_are_leads)
  a_check_good : Addr
  fd_check_good : FuncData
  F_check_good : Fun K "check_good" "check_good" s_check_good a_check_good fd_check_good
  b_check_good : Binds K fd_check_good ["good", "stands"] []
  g_check_good : mg "check_good" = some (.ref a_check_good)
  a__law_mix : Addr
  fd__law_mix : FuncData
  F__law_mix : Fun K "_law_mix" "_law_mix" s__law_mix a__law_mix fd__law_mix
  b__law_mix : Binds K fd__law_mix ["_law_script", "_law_seed"] []
  g__law_mix : mg "_law_mix" = some (.ref a__law_mix)
  a__law_next : Addr
  fd__law_next : FuncData
  F__law_next : Fun K "_law_next" "_law_next" s__law_next a__law_next fd__law_next
  b__law_next : Binds K fd__law_next ["_law_h", "_law_cap"] []
  g__law_next : mg "_law_next" = some (.ref a__law_next)
  a__law_alike : Addr
  fd__law_alike : FuncData
  F__law_alike : Fun K "_law_alike" "_law_alike" s__law_alike a__law_alike fd__law_alike
  b__law_alike : Binds K fd__law_alike ["_law_found", "_law_due"] []
  g__law_alike : mg "_law_alike" = some (.ref a__law_alike)
  a__law_pick : Addr
  fd__law_pick : FuncData
  F__law_pick : Fun K "_law_pick" "_law_pick" s__law_pick a__law_pick fd__law_pick
  b__law_pick : Binds K fd__law_pick ["_law_h", "_law_things"] []
  g__law_pick : mg "_law_pick" = some (.ref a__law_pick)
  a__law_parts : Addr
  fd__law_parts : FuncData
  F__law_parts : Fun K "_law_parts" "_law_parts" s__law_parts a__law_parts fd__law_parts
  b__law_parts : Binds K fd__law_parts ["_law_h", "_law_letters"] []
  g__law_parts : mg "_law_parts" = some (.ref a__law_parts)
  a__law_stand : Addr
  fd__law_stand : FuncData
  F__law_stand : Fun K "_law_stand" "_law_stand" s__law_stand a__law_stand fd__law_stand
  b__law_stand : Binds K fd__law_stand ["_law_thing", "_law_many"] []
  g__law_stand : mg "_law_stand" = some (.ref a__law_stand)
  a__law_fault : Addr
  fd__law_fault : FuncData
  F__law_fault : Fun K "_law_fault" "_law_fault" s__law_fault a__law_fault fd__law_fault
  b__law_fault : Binds K fd__law_fault ["_law_steps", "_law_good"] []
  g__law_fault : mg "_law_fault" = some (.ref a__law_fault)
  a__law_tried : Addr
  fd__law_tried : FuncData
  F__law_tried : Fun K "_law_tried" "_law_tried" s__law_tried a__law_tried fd__law_tried
  b__law_tried : Binds K fd__law_tried ["_law_steps", "_law_good"] []
  g__law_tried : mg "_law_tried" = some (.ref a__law_tried)
  a__law_spoilt : Addr
  fd__law_spoilt : FuncData
  F__law_spoilt : Fun K "_law_spoilt" "_law_spoilt" s__law_spoilt a__law_spoilt fd__law_spoilt
  b__law_spoilt : Binds K fd__law_spoilt ["_law_h", "_law_steps"] []
  g__law_spoilt : mg "_law_spoilt" = some (.ref a__law_spoilt)
  a_law : Addr
  fd_law : FuncData
  F_law : Fun K "law" "law" s_law a_law fd_law
  b_law : Binds K fd_law ["_law_script"] []
  g_law : mg "law" = some (.ref a_law)
/-! ### what values are -/
/-- a value of a known built-in type -/
inductive Kd (K : PySem.W.Frag) (H : Hp) : V → String → Prop
  | non : Kd K H .non "NoneType"
  | bl (b : Bool) : Kd K H (.bl b) "bool"
  | int (i : Int) : Kd K H (.int i) "int"
  | str (z : Str) : Kd K H (.str z) "str"
  | tup {a : Addr} {xs : List V} (h : SqT K H a xs) : Kd K H (.ref a) "tuple"
  | lst {a : Addr} {xs : List V} (h : H a = some (.lst xs)) : Kd K H (.ref a) "list"
theorem tyx_t {K : PySem.W.Frag} {H : Hp} {a : Addr} {xs : List V} (h : SqT K H a xs) : TyX K H (.ref a) (.type "tuple") := by
  rcases h with (h | ⟨o, h⟩) | ⟨o, its, n, h, c, _⟩
  · exact .base (.tup h)
  · exact .fTuple h
  · exact .kTuple h c
theorem Kd.ty {K : PySem.W.Frag} {H : Hp} {x : V} {t : String} (k : Kd K H x t) : TyX K H x (.type t) := by
  cases k with
  | non => exact .base .non
  | bl b => exact .base (.bl b)
  | int i => exact .base (.int i)
  | str z => exact .base (.str z)
  | tup h => exact tyx_t h
  | lst h => exact .base (.lst h)
theorem kb_ii : kitB "int" "int" = some true := by decide +kernel
theorem kb_bi : kitB "bool" "int" = some true := by decide +kernel
theorem kb_ni : kitB "NoneType" "int" = some false := by decide +kernel
theorem kb_si : kitB "str" "int" = some false := by decide +kernel
theorem kb_ti : kitB "tuple" "int" = some false := by decide +kernel
theorem kb_li : kitB "list" "int" = some false := by decide +kernel
theorem kb_ib : kitB "int" "bool" = some false := by decide +kernel
theorem kb_bb : kitB "bool" "bool" = some true := by decide +kernel
theorem kb_nt : kitB "NoneType" "tuple" = some false := by decide +kernel
theorem kb_bt : kitB "bool" "tuple" = some false := by decide +kernel
theorem kb_it : kitB "int" "tuple" = some false := by decide +kernel
theorem kb_st : kitB "str" "tuple" = some false := by decide +kernel
theorem kb_tt : kitB "tuple" "tuple" = some true := by decide +kernel
theorem kb_lt : kitB "list" "tuple" = some false := by decide +kernel
theorem kb_nl : kitB "NoneType" "list" = some false := by decide +kernel
theorem kb_bl : kitB "bool" "list" = some false := by decide +kernel
theorem kb_il : kitB "int" "list" = some false := by decide +kernel
theorem kb_sl : kitB "str" "list" = some false := by decide +kernel
theorem kb_tl : kitB "tuple" "list" = some false := by decide +kernel
theorem kb_ll : kitB "list" "list" = some true := by decide +kernel
theorem kb_ns : kitB "NoneType" "str" = some false := by decide +kernel
theorem kb_bs : kitB "bool" "str" = some false := by decide +kernel
theorem kb_is : kitB "int" "str" = some false := by decide +kernel
theorem kb_ss : kitB "str" "str" = some true := by decide +kernel
theorem kb_ts : kitB "tuple" "str" = some false := by decide +kernel
theorem kb_ls : kitB "list" "str" = some false := by decide +kernel
theorem st0 {t : TS} {D : Ends} {σ σ' : St} {H : Hp} (e : σ = σ') (h : t D σ' H) : t D σ H := by
  rw [e]
  exact h
/-- whether a value is an integer from 0 on and below a limit -/
def below : V → Int → Bool
  | .int i, n => decide (0 ≤ i) && decide (i < n)
  | _, _ => false
theorem below_int (i n : Int) : below (.int i) n = (decide (0 ≤ i) && decide (i < n)) := rfl
def spBelow (K : PySem.W.Frag) : Sp := fun vs H Q _ => ∃ (x : V) (n : Int) (t : String), vs = [x, .int n] ∧ Kd K H x t ∧ Q (.bl (below x n)) H
/-! ### tuples of ints, tuples of such, machines -/
def IntsT (K : PySem.W.Frag) (H : Hp) (v : V) (ns : List Int) : Prop := ∃ a, v = .ref a ∧ SqT K H a (ns.map V.int)
def RowsT (K : PySem.W.Frag) (H : Hp) (v : V) (rows : List (List Int)) : Prop :=
  ∃ a xs, v = .ref a ∧ SqT K H a xs ∧ xs.length = rows.length ∧ ∀ (i : Nat) (x : V) (r : List Int), xs[i]? = some x → rows[i]? = some r → IntsT K H x r
theorem IntsT.nl {K : PySem.W.Frag} {H H' : Hp} {v : V} {ns : List Int} (e : NL H H') (h : IntsT K H v ns) : IntsT K H' v ns := by
  obtain ⟨a, rfl, h⟩ := h
  exact ⟨a, rfl, e.t h⟩
theorem RowsT.nl {K : PySem.W.Frag} {H H' : Hp} {v : V} {rows : List (List Int)} (e : NL H H') (h : RowsT K H v rows) : RowsT K H' v rows := by
  obtain ⟨a, xs, rfl, h, l, p⟩ := h
  exact ⟨a, xs, rfl, e.t h, l, fun i x r h1 h2 => (p i x r h1 h2).nl e⟩
/-- a machine of L letters is as the document asks -/
structure OkM (L : Nat) (rows : List (List Int)) (good : List Int) : Prop where
  n1 : 1 ≤ rows.length
  n8 : rows.length ≤ 8
  l1 : 1 ≤ L
  l3 : L ≤ 3
  row : ∀ r ∈ rows, r.length = L ∧ ∀ z ∈ r, 0 ≤ z ∧ z < (rows.length : Int)
  gd : ∀ z ∈ good, 0 ≤ z ∧ z < (rows.length : Int)
  asc : good.Pairwise (· < ·)
theorem OkM.gl {L : Nat} {rows : List (List Int)} {good : List Int} (o : OkM L rows good) : good.length ≤ 8 := by
  have h1 : ∀ (l : List Int) (m : Int), l.Pairwise (· < ·) → (∀ z ∈ l, m ≤ z ∧ z < (rows.length : Int)) → (l.length : Int) ≤ (rows.length : Int) - m ∨ l = [] := by
    intro l
    induction l with
    | nil => intro m _ _; exact .inr rfl
    | cons x r ih =>
      intro m hp hb
      refine .inl ?_
      have hx := hb x List.mem_cons_self
      have hp' := List.pairwise_cons.mp hp
      rcases ih (x + 1) hp'.2 (fun z hz => ⟨by have := hp'.1 z hz; omega, (hb z (List.mem_cons_of_mem _ hz)).2⟩) with h | h
      · rw [List.length_cons]
        omega
      · subst h
        show ((0 + 1 : Nat) : Int) ≤ _
        omega
  have := o.n8
  rcases h1 good 0 o.asc o.gd with h | h
  · omega
  · rw [h]
    exact Nat.zero_le _
/-- the object: its fields in the order in which they are stored -/
def mflds (vs vg : V) : List (Str × V) := putF "_good" vg (putF "_steps" vs [])
theorem mf_ne : ¬ (("_steps" : Str) = "_good") := by decide +kernel
theorem mf_steps (vs vg : V) : (mflds vs vg).lookup ("_steps" : Str) = some vs := by
  unfold mflds
  rw [lookup_putF, if_neg mf_ne, lookup_putF, if_pos rfl]
theorem mf_good (vs vg : V) : (mflds vs vg).lookup ("_good" : Str) = some vg := by
  unfold mflds
  rw [lookup_putF, if_pos rfl]
structure MachAt (C : Addr) (K : PySem.W.Frag) (H : Hp) (v : V) (rows : List (List Int)) (good : List Int) : Prop where
  ex : ∃ a dx vs vg, v = .ref a ∧ H a = some (.ins C dx (mflds vs vg)) ∧ RowsT K H vs rows ∧ IntsT K H vg good
theorem MachAt.nl {C : Addr} {K : PySem.W.Frag} {H H' : Hp} {v : V} {rows : List (List Int)} {good : List Int} (e : NL H H') (h : MachAt C K H v rows good) : MachAt C K H' v rows good := by
  obtain ⟨a, dx, vs, vg, rfl, h, r, g⟩ := h.ex
  exact ⟨a, dx, vs, vg, rfl, e.ins h, r.nl e, g.nl e⟩
/-! ### comprehensions whose elements are plain -/
section
variable {K : PySem.W.Frag} {a : Addr} {xs ys : List V} {g : TG} {te : TE} {vs : List Nat} {σ σw : St} {H : Hp} {QD : Addr → Hp → Prop} {tl : TE}
/-- over a tuple, without a test; the elements keep what stands -/
theorem comp_t {a : Addr} (hw : wipe σ vs = σw) (hx : SqT K H a xs) (hl : xs.length ≤ 1000) (hy : ys.length = xs.length)
    (he : ∀ (i : Nat) (x y : V) (H2 : Hp) (R : VK), xs[i]? = some x → ys[i]? = some y → Same H H2 → (∀ H4, Same H2 H4 → R y H4) → g x σw H2 fun σ2 H3 => wipe σ2 vs = σw ∧ te σ2 H3 R)
    (q : ∀ D H', H D = none → Same H H' → H' D = some (.lst ys) → QD D H') :
    (∃ a', V.ref a = .ref a' ∧ (∃ xs, SqT K H a' xs) ∧ ∀ D, H D = none → ∃ W : Nat → Nat → Hp → Prop, (∃ m, W 0 m (upd H D (.lst []))) ∧ ∀ i m H, W i m H →
      ((Itt K a').stop i H ∧ QD D H) ∨ ((Itt K a').go i H ∧ ∃ Nx : Hp → Prop, (∀ H', Nx H' → ∃ m', m' < m ∧ W (i + 1) m' H') ∧ ∀ x H', (Itt K a').yld i H x H' → g x (wipe σ vs) H' fun σ2 H2 => wipe σ2 vs = wipe σ vs ∧ tYes σ2 H2 fun b H3 =>
        if b = true then te σ2 H3 fun y H4 => ∃ acc, H4 D = some (.lst acc) ∧ acc.length < sizeLine ∧ Nx (upd H4 D (.lst (acc ++ [y]))) else Nx H3)) := by
  refine ⟨a, rfl, ⟨xs, hx⟩, fun D hD => ?_⟩
  refine lc_tup (K := K) (a := a) (xs := xs) (fun i H' => Same H H' ∧ H' D = some (.lst (ys.take i))) ⟨same_upd hD, upd_same⟩ (fun i H' _ h => h.1.t hx) (fun i x H2 hi h => ?_) fun H' h => ?_
  · rw [hw]
    have hil : i < xs.length := (List.getElem?_eq_some_iff.mp hi).1
    have hy' : ys[i]? = some ys[i] := List.getElem?_eq_getElem (by omega)
    obtain ⟨hs, hd⟩ := h
    refine he i x ys[i] H2 _ hi hy' hs fun H4 s4 => ?_
    refine ⟨ys.take i, s4 _ _ hd, ?_, ?_, ?_⟩
    · rw [List.length_take]
      exact Nat.lt_of_le_of_lt (Nat.min_le_left _ _) (small1000 (by omega))
    · intro b o hb
      have nb : b ≠ D := ne_of_none hb hD
      rw [upd_ne nb]
      exact s4 _ _ (hs _ _ hb)
    · rw [upd_same, List.take_add_one, hy']
      rfl
  · rw [← hy, List.take_length] at h
    exact q D H' hD h.1 h.2
end
theorem all_bl {xs : List V} {n : Int} : ((xs.map fun x => below x n).all id) = xs.all fun x => below x n := by
  rw [List.all_map]
  rfl
theorem at_int {α : Type} {xs : List α} {z : Int} {v : α} (h0 : 0 ≤ z) (h : xs[z.toNat]? = some v) : atI xs z = some v := by
  have e : z = ((z.toNat : Nat) : Int) := by omega
  rw [e]
  exact atI_nat h
theorem getD_of {α : Type} {l : List α} {i : Nat} {d x : α} (h : l[i]? = some x) : l.getD i d = x := by
  rw [List.getD_eq_getElem?_getD, h]
  rfl
local macro_rules | `(tactic| walk_at "ev") => `(tactic| first | refine e_v0 ?_ | refine e_v1 ?_ | refine e_v2 ?_ | refine e_v3 ?_ | refine e_v4 ?_ | refine e_v5 ?_ | refine e_v6 ?_ | refine e_v7 ?_ | refine e_v8 ?_ | refine e_v9 ?_ | refine e_v10 ?_ | refine e_v11 ?_ | refine e_v12 ?_ | refine e_v13 ?_ | refine e_v14 ?_ | refine e_v15 ?_ | refine e_v16 ?_ | refine e_v17 ?_ | refine e_v18 ?_ | refine e_v19 ?_ | refine e_v20 ?_ | refine e_v21 ?_ | refine e_v22 ?_ | refine e_v23 ?_ | refine e_v24 ?_ | refine e_v25 ?_)
local macro_rules | `(tactic| walk_at "gn") => `(tactic| first | refine g_n0 ?_ | refine g_n1 ?_ | refine g_n2 ?_ | refine g_n3 ?_ | refine g_n4 ?_ | refine g_n5 ?_ | refine g_n6 ?_ | refine g_n7 ?_ | refine g_n8 ?_ | refine g_n9 ?_ | refine g_n10 ?_ | refine g_n11 ?_ | refine g_n12 ?_ | refine g_n13 ?_ | refine g_n14 ?_ | refine g_n15 ?_ | refine g_n16 ?_ | refine g_n17 ?_ | refine g_n18 ?_ | refine g_n19 ?_ | refine g_n20 ?_ | refine g_n21 ?_ | refine g_n22 ?_ | refine g_n23 ?_ | refine g_n24 ?_ | refine g_n25 ?_)
local macro_rules | `(tactic| walk_at "st") => `(tactic| with_reducible first | refine s_nx ?_ | refine s_rt ?_ | refine s_bk ?_ | refine s_ct ?_ | refine s_seq ?_ | refine s_next ?_ | refine s_asg ?_ | refine s_par ?_ | refine s_exp ?_ | refine s_ret ?_ | refine s_if ?_ | refine s_brk ?_ | refine s_cnt ?_ | refine e_c ?_ | walk_at "ev" | walk_at "gn" | refine g_sub ?_ | refine e_op ?_ | refine e_un ?_ | refine e_test ?_ | refine e_tB ?_ | refine e_and ?_ | refine e_or ?_ | refine e_not ?_ | refine e_andV ?_ | refine e_orV ?_ | refine e_notV ?_ | refine e_ife ?_ | refine e_chain ?_ | refine e_tup ?_ | refine e_lst ?_ | refine a_nil ?_ | refine a_cons ?_ | refine e_cb ?_ | refine e_call ?_ | refine e_make ?_ | refine e_prop ?_ | refine e_bm ?_ | refine e_bm0 ?_ | refine e_sl ?_ | refine o_none ?_ | refine o_some ?_ | refine ex_bl ?_ | refine ex_int ?_ | refine i_t ?_ | refine i_f ?_ | refine i_nt ?_ | refine i_nf ?_ | refine add_i ?_ | refine r_i0 ?_ | refine eq_i ?_ | refine ne_i ?_ | refine eq_tt ?_ | refine eq_ff ?_ | refine eq_tf ?_ | refine eq_ft ?_ | refine ne_tt ?_ | refine ne_ff ?_ | refine ne_tf ?_ | refine ne_ft ?_ | refine eq_b ?_ | refine int_i ?_ | refine max_i ?_ | refine min_i ?_ | refine ne_b ?_)
local macro_rules | `(tactic| walk_at "go") => `(tactic| repeat walk_at "st")
section
variable {P : Program} {w : World} {K : PySem.W.Frag} {mg : Str → Option Value} {base : Heap}
theorem ok_is_below (T : TxtP P K mg) : FnOk P w K mg base CX0 1 T.a_is_below T.fd_is_below ["value", "limit"] (spBelow K) := by
  refine T.F_is_below.ok sc_is_below (fun vs H Q E h => ?_) (fun cdv A outer s H vs Q E hr h => ?_)
  · obtain ⟨x, n, t, rfl, _⟩ := h
    rfl
  · obtain ⟨x, n, t, rfl, k, q⟩ := h
    refine ⟨_, (pss_one (ps_ret (pe_and (pe_callB (r := rIsi K) call_isi (by rfl) T.z_isinstance (by decide +kernel) (pa_cons (pv 0) (pa_cons (pe_bltn (v := .ty "int") (by rfl) T.z_int (by decide +kernel) rfl) pa_nil))) (pe_and (pe_not (pe_callB (r := rIsi K) call_isi (by rfl) T.z_isinstance (by decide +kernel) (pa_cons (pv 0) (pa_cons (pe_bltn (v := .ty "bool") (by rfl) T.z_bool (by decide +kernel) rfl) pa_nil)))) (pe_one (pe_chain op_le op_lt pe_int (pv 0) (pv 1))))))), ?_⟩
    refine st0 (σ' := [some _, some _]) rfl ?_
    cases k with
    | int i =>
      walk_at "go"
      refine isi (Kd.int i).ty kb_ii ?_
      walk_at "go"
      refine isi (Kd.int i).ty kb_ib ?_
      walk_at "go"
      refine i_d (fun h0 => ?_) (fun h0 => ?_)
      · walk_at "go"
        rw [show below (.int i) n = decide (i < n) by rw [below_int, decide_eq_true h0]; rfl] at q
        exact q
      · walk_at "go"
        rw [show below (.int i) n = false by rw [below_int, decide_eq_false h0]; rfl] at q
        exact q
    | bl b =>
      walk_at "go"
      refine isi (Kd.bl b).ty kb_bi ?_
      walk_at "go"
      refine isi (Kd.bl b).ty kb_bb ?_
      walk_at "go"
      exact q
    | non =>
      walk_at "go"
      refine isi Kd.non.ty kb_ni ?_
      walk_at "go"
      exact q
    | str z =>
      walk_at "go"
      refine isi (Kd.str z).ty kb_si ?_
      walk_at "go"
      exact q
    | tup hh =>
      walk_at "go"
      refine isi (Kd.tup hh).ty kb_ti ?_
      walk_at "go"
      exact q
    | lst hh =>
      walk_at "go"
      refine isi (Kd.lst hh).ty kb_li ?_
      walk_at "go"
      exact q
/-! ### the errors -/
theorem i_if {c : Prop} [Decidable c] {A B : Prop} {b : Bool} (e : decide c = b) (q : if b = true then A else B) : if decide c = true then A else B := by
  rw [e]
  exact q
theorem told_len (i : Nat) (h : i < 8) : (toString ((i : Nat) : Int) : Str).length ≤ 1 := by
  match i, h with
  | 0, _ => decide +kernel
  | 1, _ => decide +kernel
  | 2, _ => decide +kernel
  | 3, _ => decide +kernel
  | 4, _ => decide +kernel
  | 5, _ => decide +kernel
  | 6, _ => decide +kernel
  | 7, _ => decide +kernel
  | n + 8, h => omega
theorem str_app (x y : Str) : (x ++ y).length = x.length + y.length := by
  show (x.cps ++ y.cps).size = _
  rw [Array.size_append]
  rfl
def spTold : Sp := fun vs H Q _ => ∃ v : V, vs = [v] ∧ (v = .non ∨ ∃ i : Nat, i < 8 ∧ v = .int (i : Nat)) ∧ ∀ y : Str, y.length ≤ 100 → Q (.str y) H
theorem ok_told (T : TxtP P K mg) : FnOk P w K mg base CX0 1 T.a_told T.fd_told ["index"] spTold := by
  refine T.F_told.ok sc_told (fun vs H Q E h => ?_) (fun cdv A outer s H vs Q E hr h => ?_)
  · obtain ⟨v, rfl, _⟩ := h
    rfl
  · obtain ⟨v, rfl, hv, q⟩ := h
    refine ⟨_, (pss_one (ps_ret (pe_ifExp (pt_cmpR op_isN (pv 0) pe_non (nomark _)) pe_str (pe_joined (.cons pe_str (.cons (pe_fmt (pv 0)) .nil)))))), ?_⟩
    refine st0 (σ' := [some _]) rfl ?_
    walk_at "go"
    rcases hv with rfl | ⟨i, hi, rfl⟩
    · refine ⟨rfl, ?_⟩
      walk_at "go"
      refine i_if (b := true) (decide_eq_true rfl) ?_
      walk_at "go"
      exact q _ (by decide +kernel)
    · refine ⟨rfl, ?_⟩
      walk_at "go"
      refine i_if (b := false) (decide_eq_false (fun z => by cases z)) ?_
      refine i_f ?_
      have h1 := told_len i hi
      have hz : sizeLine = 16777216 := sizeLine_eq
      have e0 : ((Str.empty ++ ("the thing at " : Str)) : Str).length = 13 := by decide +kernel
      refine ⟨"the thing at ", rfl, by omega, _, rfl, .inr ⟨(i : Nat), rfl, by have : (i : Int).natAbs = i := Int.natAbs_natCast i; rw [this]; exact Nat.lt_of_le_of_lt (Nat.log2_le_self i) (by omega), ?_⟩⟩
      refine ⟨_, rfl, by rw [str_app]; omega, ?_⟩
      exact q _ (by rw [str_app]; omega)
def spBadSteps (C : Addr) : Sp := fun vs H Q _ => ∃ (e : Addr) (v : V), vs = [.ref e, v] ∧ H e = some (exo e C none) ∧ (v = .non ∨ ∃ i : Nat, i < 8 ∧ v = .int (i : Nat)) ∧ ∀ dx, H dx = none → dx ≠ e → Q .non (upd (upd H dx (exd dx [("index", v)])) e (exo e C (some dx)))
theorem ok_BadSteps_init (T : TxtP P K mg) : FnOk P w K mg base CX0 2 T.a_BadSteps_init T.fd_BadSteps_init ["self", "index"] (spBadSteps T.C_BadSteps) := by
  refine T.F_BadSteps_init.ok (p0 := _) (p1 := _) (p2 := _) (p3 := _) (p4 := _) (ar := _) sc_BadSteps_init rfl rfl rfl rfl rfl (fun vs H Q E h => ?_) (fun cc cda A outer s H vs Q E ox hr h => ?_)
  · obtain ⟨e, v, rfl, _⟩ := h
    rfl
  · obtain ⟨e, v, rfl, he, hv, q⟩ := h
    refine ⟨_, _, (pa_cons (pe_joined (.cons pe_str (.cons (pe_fmt (pe_call (ok_told T) (hr.mono (by decide)) (by rfl) T.g_told T.F_told.kp T.b_told .nil pass0 (pa_cons (pv 1) pa_nil))) .nil))) pa_nil), (pss_one (ps_ost (pv 0) (pv 1) rfl)), e, rfl, he, ?_⟩
    have hz : sizeLine = 16777216 := sizeLine_eq
    have es : NdefX.startF ["self", "index", "__class__"] [V.ref e, v] [none] = [some (V.ref e), some v, none] := rfl
    rw [es]
    have e0 : ((Str.empty ++ ("no steps of a machine: " : Str)) : Str).length = 23 := by decide +kernel
    walk_at "go"
    refine ⟨"no steps of a machine: ", rfl, by omega, ?_⟩
    show tCall spTold [] E0 (tCons (tVar 1) tNil) _ _ _
    walk_at "go"
    refine ⟨v, rfl, hv, fun y hy => .inl ⟨y, rfl, by omega, _, rfl, by rw [str_app]; omega, ?_⟩⟩
    refine ⟨by show 1 ≤ 1000; decide, he, ?_⟩
    walk_at "go"
    refine ⟨v, rfl, .ref e, rfl, e, T.C_BadSteps, rfl, T.x_BadSteps, T.n_BadSteps_index, .inl ⟨he, fun dx n ne => ?_⟩⟩
    exact q dx n ne
/-! ### the program: machines, all as it should be -/
def spAre (K : PySem.W.Frag) : Sp := fun vs H Q _ => ∃ (x : V) (n : Int), vs = [x, .int n] ∧
  ((∃ a xs, x = .ref a ∧ SqT K H a xs ∧ xs.length ≤ 1000 ∧ (∀ y ∈ xs, ∃ t, ∀ H', Kd K H' y t) ∧ ∀ H', Same H H' → Q (.bl (xs.all fun x => below x n)) H') ∨ (∃ t, Kd K H x t ∧ kitB t "tuple" = some false ∧ Q (.bl false) H))
theorem ok_are_below (T : TxtP P K mg) : FnOk P w K mg base CX0 2 T.a_are_below T.fd_are_below ["values", "limit"] (spAre K) := by
  refine T.F_are_below.ok sc_are_below (fun vs H Q E h => ?_) (fun cdv A outer s H vs Q E hr h => ?_)
  · obtain ⟨x, n, rfl, _⟩ := h
    rfl
  · obtain ⟨x, n, rfl, h⟩ := h
    refine ⟨_, (pss_one (ps_ret (pe_and (pe_callB (r := rIsi K) call_isi (by rfl) T.z_isinstance (by decide +kernel) (pa_cons (pv 0) (pa_cons (pe_bltn (v := .ty "tuple") (by rfl) T.z_tuple (by decide +kernel) rfl) pa_nil))) (pe_one (pe_callB (r := rAll K) (cr_all rfl) (by rfl) T.z_all (by decide +kernel) (pa_cons (pe_lc (own := [("value", 2)]) (g := (gName 2)) (tt := tYes) rfl sc_are_below.nd (pi_seq (pv 0)) (blkOk_by (N := ["values", "limit", "value"]) (sc := defScope s_are_below) (by decide +kernel)) (fun _ _ _ _ _ => (pg_name (i := 2) sc_are_below.nd rfl (Or.inl rfl))) (fun _ _ _ _ _ => pts_nil) (fun _ _ _ _ _ => (pe_call (ok_is_below T) (hr.mono (by decide)) (by rfl) T.g_is_below T.F_is_below.kp T.b_is_below .nil pass0 (pa_cons (pv 2) (pa_cons (pv 1) pa_nil))))) pa_nil)))))), ?_⟩
    refine st0 (σ' := [some _, some _, none]) rfl ?_
    rcases h with ⟨a, xs, rfl, hx, hl, hk, q⟩ | ⟨t, k, kt, q⟩
    · walk_at "go"
      refine isi (tyx_t hx) kb_tt ?_
      walk_at "go"
      refine e_lcT ?_
      walk_at "go"
      refine comp_t (K := K) (σw := [some (.ref a), some (.int n), none]) (ys := (xs.map fun x => below x n).map V.bl) rfl hx hl (by simp) ?_ ?_
      · intro i x y H2 R hxi hyi s2 hR
        walk_at "go"
        refine ⟨rfl, ?_⟩
        obtain ⟨t, kt⟩ := hk x (List.mem_of_getElem? hxi)
        walk_at "go"
        refine ⟨x, n, t, rfl, kt _, ?_⟩
        have ey : y = .bl (below x n) := by
          rw [List.getElem?_map, List.getElem?_map, hxi] at hyi
          exact (Option.some.inj hyi).symm
        rw [← ey]
        exact hR _ (Same.refl _)
      · intro D H' hD s hd
        walk_at "go"
        refine ⟨D, _, rfl, sqL hd, ?_⟩
        rw [all_bl]
        exact q _ s
    · walk_at "go"
      refine isi k.ty kt ?_
      walk_at "go"
      exact q
def leadsV (xs : List V) (n : Int) : Bool := decide (1 ≤ xs.length) && decide (xs.length ≤ 3) && xs.all fun x => below x n
def spLeads (K : PySem.W.Frag) : Sp := fun vs H Q _ => ∃ (x : V) (n : Int), vs = [x, .int n] ∧
  ((∃ a xs, x = .ref a ∧ SqT K H a xs ∧ xs.length ≤ 1000 ∧ (∀ y ∈ xs, ∃ t, ∀ H', Kd K H' y t) ∧ ∀ H', Same H H' → Q (.bl (leadsV xs n)) H') ∨ (∃ t, Kd K H x t ∧ kitB t "tuple" = some false ∧ Q (.bl false) H))
theorem ok_are_leads (T : TxtP P K mg) : FnOk P w K mg base CX0 3 T.a_are_leads T.fd_are_leads ["leads", "stands"] (spLeads K) := by
  refine T.F_are_leads.ok sc_are_leads (fun vs H Q E h => ?_) (fun cdv A outer s H vs Q E hr h => ?_)
  · obtain ⟨x, n, rfl, _⟩ := h
    rfl
  · obtain ⟨x, n, rfl, h⟩ := h
    refine ⟨_, (pss_one (ps_ret (pe_and (pe_call (ok_are_below T) (hr.mono (by decide)) (by rfl) T.g_are_below T.F_are_below.kp T.b_are_below .nil pass0 (pa_cons (pv 0) (pa_cons (pv 1) pa_nil))) (pe_one (pe_chain op_le op_le pe_int (pe_callB (r := rLenU K) call_lenU (by rfl) T.z_len (by decide +kernel) (pa_cons (pv 0) pa_nil)) (pe_glob (v := .int 3) (by rfl) T.g_MOST_LETTERS ⟨_, rfl⟩)))))), ?_⟩
    refine st0 (σ' := [some _, some _]) rfl ?_
    rcases h with ⟨a, xs, rfl, hx, hl, hk, q⟩ | ⟨t, k, kt, q⟩
    · walk_at "go"
      refine ⟨_, _, rfl, .inl ⟨a, xs, rfl, hx, hl, hk, fun H4 s4 => ?_⟩⟩
      cases hv : (xs.all fun x => below x n) with
      | false =>
        walk_at "go"
        rw [show leadsV xs n = false by unfold leadsV; rw [hv]; simp] at q
        exact q _ s4
      | true =>
        walk_at "go"
        refine len_t (s4.t hx) ?_
        walk_at "go"
        refine i_d (fun h1 => ?_) (fun h1 => ?_)
        · walk_at "go"
          rw [show leadsV xs n = decide ((xs.length : Int) ≤ 3) by
            unfold leadsV
            rw [hv, decide_eq_true (p := 1 ≤ xs.length) (by omega), Bool.and_true, Bool.true_and]
            by_cases h3 : xs.length ≤ 3
            · rw [decide_eq_true h3, decide_eq_true (by omega)]
            · rw [decide_eq_false h3, decide_eq_false (by omega)]] at q
          exact q _ s4
        · walk_at "go"
          rw [show leadsV xs n = false by unfold leadsV; rw [decide_eq_false (p := 1 ≤ xs.length) (by omega)]; rfl] at q
          exact q _ s4
    · walk_at "go"
      refine ⟨_, _, rfl, .inr ⟨t, k, kt, ?_⟩⟩
      walk_at "go"
      exact q
theorem kd_int (i : Int) : ∃ t, ∀ H', Kd K H' (.int i) t := ⟨"int", fun _ => .int i⟩
theorem below_all {ns : List Int} {n : Int} (h : ∀ z ∈ ns, 0 ≤ z ∧ z < n) : ((ns.map V.int).all fun x => below x n) = true := by
  rw [List.all_eq_true]
  intro x hx
  obtain ⟨z, hz, rfl⟩ := List.mem_map.mp hx
  rw [below_int, decide_eq_true (h z hz).1, decide_eq_true (h z hz).2]
  rfl
/-! ### check_steps, whatever it is given -/
def Fl : V → Bool
  | .non => true
  | .bl _ => true
  | .int _ => true
  | .str z => PyData.canLay0 (.str z)
  | _ => false
theorem Fl.kd {y : V} (h : Fl y = true) : ∃ t, ∀ (K : PySem.W.Frag) (H : Hp), Kd K H y t := by
  cases y with
  | non => exact ⟨_, fun _ _ => .non⟩
  | bl b => exact ⟨_, fun _ _ => .bl b⟩
  | int i => exact ⟨_, fun _ _ => .int i⟩
  | str z => exact ⟨_, fun _ _ => .str z⟩
  | _ => cases h
/-- a value that is no tuple -/
def NoT (K : PySem.W.Frag) (H : Hp) (x : V) : Prop := ∃ t, Kd K H x t ∧ kitB t "tuple" = some false
/-- a row of steps: a tuple of flat values, or anything else -/
def ItAt (K : PySem.W.Frag) (H : Hp) (x : V) : Option (List V) → Prop
  | none => NoT K H x
  | some xs => ∃ a, x = .ref a ∧ SqT K H a xs ∧ xs.length ≤ 1000 ∧ ∀ y ∈ xs, Fl y = true
/-- steps: a tuple of rows, or anything else -/
def StAt (K : PySem.W.Frag) (H : Hp) (v : V) : Option (List (Option (List V))) → Prop
  | none => NoT K H v
  | some its => ∃ a xs, v = .ref a ∧ SqT K H a xs ∧ xs.length = its.length ∧ xs.length ≤ 1000 ∧ ∀ (i : Nat) (x : V) (I : Option (List V)), xs[i]? = some x → its[i]? = some I → ItAt K H x I
theorem Kd.same {K : PySem.W.Frag} {H H' : Hp} {x : V} {t : String} (k : Kd K H x t) (s : Same H H') : Kd K H' x t := by
  cases k with
  | non => exact .non
  | bl b => exact .bl b
  | int i => exact .int i
  | str z => exact .str z
  | tup h => exact .tup (s.t h)
  | lst h => exact .lst (s _ _ h)
theorem NoT.same {K : PySem.W.Frag} {H H' : Hp} {x : V} (k : NoT K H x) (s : Same H H') : NoT K H' x := by
  obtain ⟨t, k, e⟩ := k
  exact ⟨t, k.same s, e⟩
theorem ItAt.same {K : PySem.W.Frag} {H H' : Hp} {x : V} {I : Option (List V)} (k : ItAt K H x I) (s : Same H H') : ItAt K H' x I := by
  cases I with
  | none => exact NoT.same k s
  | some xs =>
    obtain ⟨a, e, h, l, f⟩ := k
    exact ⟨a, e, s.t h, l, f⟩
theorem StAt.same {K : PySem.W.Frag} {H H' : Hp} {x : V} {S : Option (List (Option (List V)))} (k : StAt K H x S) (s : Same H H') : StAt K H' x S := by
  cases S with
  | none => exact NoT.same k s
  | some its =>
    obtain ⟨a, xs, e, h, l, z, f⟩ := k
    exact ⟨a, xs, e, s.t h, l, z, fun i x I h1 h2 => (f i x I h1 h2).same s⟩
def ilen (I : Option (List V)) : Nat := (I.getD []).length
/-- whether a row of steps can't stand, among n stands, the first row having L letters -/
def rowBad (n L : Nat) : Option (List V) → Bool
  | none => true
  | some xs => !leadsV xs (n : Int) || !decide (xs.length = L)
def OkSt : Option (List (Option (List V))) → Prop
  | none => False
  | some its => 1 ≤ its.length ∧ its.length ≤ 8 ∧ ∀ I ∈ its, rowBad its.length (ilen (its.head?.getD none)) I = false
def BadAt : Option (List (Option (List V))) → Option Nat → Prop
  | none, r => r = none
  | some its, none => ¬ (1 ≤ its.length ∧ its.length ≤ 8)
  | some its, some i => 1 ≤ its.length ∧ its.length ≤ 8 ∧ (∃ I, its[i]? = some I ∧ rowBad its.length (ilen (its.head?.getD none)) I = true) ∧ ∀ (j : Nat) (J : Option (List V)), j < i → its[j]? = some J → rowBad its.length (ilen (its.head?.getD none)) J = false
def idxV : Option Nat → V
  | none => .non
  | some i => .int (i : Nat)
def spStepsX (C : Addr) (K : PySem.W.Frag) : Sp := fun vs H Q E => ∃ (v : V) (S : Option (List (Option (List V)))), vs = [v] ∧ StAt K H v S ∧ (OkSt S → ∀ H', Same H H' → Q .non H') ∧
  ∀ r, BadAt S r → ∀ (d : Addr) (H' : Hp), H d = none → Same H H' → H' d = some (.xd [("index", idxV r)]) → E (.ref C) (some d) H'
/-- the error that is on its way -/
theorem bad_out {C : Addr} {H0 H : Hp} {r : Option Nat} {W : XK} (hr : r = none ∨ ∃ i, i < 8 ∧ r = some i) (s : Same H0 H) (q : ∀ (d : Addr) (H' : Hp), H0 d = none → Same H0 H' → H' d = some (.xd [("index", idxV r)]) → W (.ref C) (some d) H') :
    ∀ a, H a = none → spBadSteps C (.ref a :: ([idxV r] ++ [])) (upd H a (exo a C none)) (fun v H2 => v = .non ∧ ∃ (d : Addr) (fs : List (Str × V)), H2 a = some (exo a C (some d)) ∧ H2 d = some (exd d fs) ∧ H d = none ∧ W (.ref C) (some d) (upd (del H2 a) d (.xd fs))) (fun _ _ _ => False) := by
  intro a ha
  refine ⟨a, idxV r, rfl, upd_same, ?_, fun dx hd ne => ⟨rfl, dx, [("index", idxV r)], upd_same, ?_, ?_, ?_⟩⟩
  · rcases hr with rfl | ⟨i, hi, rfl⟩
    · exact .inl rfl
    · exact .inr ⟨i, hi, rfl⟩
  · rw [upd_ne ne, upd_same]
  · rw [upd_ne ne] at hd
    exact hd
  · rw [upd_ne ne] at hd
    have h0 : H0 dx = none := by
      cases e : H0 dx with
      | none => rfl
      | some o =>
        rw [s _ _ e] at hd
        cases hd
    refine q dx _ h0 (fun b o hb => ?_) upd_same
    have hb' := s _ _ hb
    have nb : b ≠ dx := fun e => by
      rw [e, hd] at hb'
      cases hb'
    have na : b ≠ a := fun e => by
      rw [e, ha] at hb'
      cases hb'
    rw [upd_ne nb, del_ne na, upd_ne na, upd_ne nb, upd_ne na]
    exact hb'
theorem i_nb {b : Bool} {A B : Prop} (h1 : b = false → A) (h2 : b = true → B) : if (!b) = true then A else B := by
  cases b with
  | true => exact iteF (h2 rfl)
  | false => exact iteT (h1 rfl)
def mkX (C : Addr) (sp : Sp) (Q : XK) : List V → Hp → Prop := fun vs H1 => vs.length ≤ 1000 ∧ ∀ a, H1 a = none → sp (.ref a :: (vs ++ [])) (upd H1 a (exo a C none))
  (fun v H2 => v = .non ∧ ∃ (d : Addr) (fs : List (Str × V)), H2 a = some (exo a C (some d)) ∧ H2 d = some (exd d fs) ∧ H1 d = none ∧ Q (.ref C) (some d) (upd (del H2 a) d (.xd fs))) (fun _ _ _ => False)
theorem e_mko {C : Addr} {sp : Sp} {ta : TA} {σ : St} {H : Hp} {Q : XK} (q : ta σ H (mkX C sp Q)) : tMkO C sp [] ta σ H Q := q
theorem ok_check_steps (T : TxtP P K mg) : FnOk P w K mg base (L2.CX P w) 4 T.a_check_steps T.fd_check_steps ["steps"] (spStepsX T.C_BadSteps K) := by
  refine T.F_check_steps.okX sc_check_steps (fun vs H Q E h => ?_) (fun cdv A outer s H vs Q E hr h => ?_)
  · obtain ⟨v, S, rfl, _⟩ := h
    rfl
  · obtain ⟨v, S, rfl, hS, q, qx⟩ := h
    refine ⟨_, (pss_cons (ps_if (PW.pt (pw_or (pt_not (pt_val (pe_callB (r := rIsi K) call_isi (by rfl) T.z_isinstance (by decide +kernel) (pa_cons (pv 0) (pa_cons (pe_bltn (v := .ty "tuple") (by rfl) T.z_tuple (by decide +kernel) rfl) pa_nil))))) (pw_or1 (pt_not (pt_chain op_le op_le pe_int (pe_callB (r := rLenU K) call_lenU (by rfl) T.z_len (by decide +kernel) (pa_cons (pv 0) pa_nil)) (pe_glob (v := .int 8) (by rfl) T.g_MOST_STANDS ⟨_, rfl⟩)))))) (pss_one (ps_raise rfl (takes_of rfl rfl rfl rfl) (pmk_oex T.x_BadSteps T.i_BadSteps T.t_BadSteps_init (ok_BadSteps_init T) (hr.mono (by decide)) T.b_BadSteps_init .nil pass0 (by rfl) T.g_BadSteps (pa_cons pe_non pa_nil)))) pss_nil)
 (pss_one (ps_for (passes_of rfl) rfl (pi_enumT (by rfl) T.z_enumerate (pa_cons (pv 0) pa_nil)) (pg_tup rfl (pgs_cons (pg_name (i := 1) sc_check_steps.nd rfl (Or.inl rfl)) (pgs_cons (pg_name (i := 2) sc_check_steps.nd rfl (Or.inl rfl)) pgs_nil)))
 (pss_one (ps_if (PW.pt (pw_or (pt_not (pt_val (pe_call (ok_are_leads T) (hr.mono (by decide)) (by rfl) T.g_are_leads T.F_are_leads.kp T.b_are_leads .nil pass0 (pa_cons (pv 2) (pa_cons (pe_callB (r := rLenU K) call_lenU (by rfl) T.z_len (by decide +kernel) (pa_cons (pv 0) pa_nil)) pa_nil))))) (pw_or1 (pt_cmpR (r := rNeU K) (op_neU hr.units) (pe_callB (r := rLenU K) call_lenU (by rfl) T.z_len (by decide +kernel) (pa_cons (pv 2) pa_nil)) (pe_callB (r := rLenU K) call_lenU (by rfl) T.z_len (by decide +kernel) (pa_cons (pe_ix (r := rIx K) ix_seq (pv 0) pe_int (fun _ _ => rfl)) pa_nil)) (nomark _))))) (pss_one (ps_raise rfl (takes_of rfl rfl rfl rfl) (pmk_oex T.x_BadSteps T.i_BadSteps T.t_BadSteps_init (ok_BadSteps_init T) (hr.mono (by decide)) T.b_BadSteps_init .nil pass0 (by rfl) T.g_BadSteps (pa_cons (pv 1) pa_nil)))) pss_nil))))), ?_⟩
    refine st0 (σ' := [some _, none, none]) rfl ?_
    walk_at "go"
    cases S with
    | none =>
      obtain ⟨t, k, kt⟩ := hS
      refine isi k.ty kt ?_
      walk_at "go"
      refine e_mko ?_
      walk_at "go"
      exact ⟨by show 1 ≤ 1000; decide, bad_out (r := none) (.inl rfl) (Same.refl _) (qx none rfl)⟩
    | some its =>
      obtain ⟨a, xs, rfl, hx, hlen, hz, hp⟩ := hS
      refine isi (tyx_t hx) kb_tt ?_
      walk_at "go"
      refine len_t hx ?_
      walk_at "go"
      refine i_d (fun h1 => ?_) (fun h1 => ?_)
      · walk_at "go"
        refine i_nd (fun h3 => ?_) (fun h3 => ?_)
        · walk_at "go"
          refine e_mko ?_
          walk_at "go"
          exact ⟨by show 1 ≤ 1000; decide, bad_out (r := none) (.inl rfl) (Same.refl _) (qx none (fun z => by omega))⟩
        · walk_at "go"
          have n1 : 1 ≤ its.length := by omega
          have n8 : its.length ≤ 8 := by omega
          refine f_forE ?_
          walk_at "go"
          refine ⟨a, xs, rfl, hx, for_it (walk_enumT (K := K) (xs := xs)) (fun i σ H2 => ∃ y1 y2, σ = [some (.ref a), y1, y2] ∧ Same H H2 ∧ ∀ (j : Nat) (J : Option (List V)), j < i → its[j]? = some J → rowBad its.length (ilen (its.head?.getD none)) J = false) ⟨none, none, rfl, Same.refl _, fun j _ h => absurd h (Nat.not_lt_zero j)⟩ (fun i σ H2 _ h => ?_) (fun i x σ H2 H3 hi h hy => ?_) (fun σ H2 h => ?_)⟩
          · obtain ⟨_, _, _, s, _⟩ := h
            exact s.t hx
          · obtain ⟨y1, y2, rfl, s, hold⟩ := h
            obtain ⟨t, u1, u2, rfl, ht, e3, eu1, eu2⟩ := hy
            obtain ⟨s3, h3⟩ := new_same ht e3
            have sx := s.trans s3
            have hI : ∃ I, its[i]? = some I := ⟨its[i]'(by omega), List.getElem?_eq_getElem (by omega)⟩
            obtain ⟨I, hI⟩ := hI
            have hat := (hp i u2 I eu2 hI).same sx
            refine g_pair (sqT h3) (σ' := [some (.ref a), some u1, some u2]) rfl ?_
            walk_at "go"
            refine len_t (sx.t hx) ?_
            walk_at "go"
            have hu1 : u1 = idxV (some i) := (Option.some.inj eu1).symm
            subst hu1
            have i8 : i < 8 := by omega
            have out : ∀ H', Same H3 H' → rowBad its.length (ilen (its.head?.getD none)) I = true → mkX T.C_BadSteps (spBadSteps T.C_BadSteps) (fun cls d H' => E cls d H') [idxV (some i)] H' := fun H' s' hb =>
              ⟨by show 1 ≤ 1000; decide, bad_out (r := some i) (.inr ⟨i, i8, rfl⟩) (sx.trans s') (qx (some i) ⟨n1, n8, ⟨I, hI, hb⟩, hold⟩)⟩
            have hlz : (xs.length : Int) = (its.length : Nat) := by omega
            rw [hlz]
            cases I with
            | none =>
              obtain ⟨t', k, kt⟩ := hat
              refine ⟨u2, _, rfl, .inr ⟨t', k, kt, ?_⟩⟩
              walk_at "go"
              refine e_mko ?_
              walk_at "go"
              exact out _ (Same.refl _) rfl
            | some ys =>
              obtain ⟨b, rfl, hb, hzb, hfl⟩ := hat
              refine ⟨_, _, rfl, .inl ⟨b, ys, rfl, hb, hzb, fun y hy => ?_, fun H4 s4 => ?_⟩⟩
              · obtain ⟨t', k⟩ := Fl.kd (hfl y hy)
                exact ⟨t', fun H' => k K H'⟩
              walk_at "go"
              refine i_nb (fun hv => ?_) (fun hv => ?_)
              · walk_at "go"
                refine e_mko ?_
                walk_at "go"
                refine out _ s4 ?_
                show (!leadsV ys (its.length : Int) || _) = true
                rw [hv]
                rfl
              · walk_at "go"
                have hx0 : ∃ x0, xs[0]? = some x0 := ⟨xs[0]'(by omega), List.getElem?_eq_getElem (by omega)⟩
                obtain ⟨x0, hx0⟩ := hx0
                have hJ : ∃ ys0, its[0]? = some (some ys0) := by
                  have hh : ∃ J, its[0]? = some J := ⟨its[0]'(by omega), List.getElem?_eq_getElem (by omega)⟩
                  obtain ⟨J, hJ⟩ := hh
                  cases J with
                  | some ys0 => exact ⟨ys0, hJ⟩
                  | none =>
                    cases i with
                    | zero =>
                      rw [hJ] at hI
                      cases hI
                    | succ i => exact absurd (hold 0 none (Nat.succ_pos i) hJ) (by intro z; cases z)
                obtain ⟨ys0, hJ⟩ := hJ
                obtain ⟨b0, rfl, hb0, _, _⟩ := (hp 0 x0 (some ys0) hx0 hJ).same (sx.trans s4)
                have hL : ilen (its.head?.getD none) = ys0.length := by
                  rw [List.head?_eq_getElem?, hJ]
                  rfl
                refine len_t (s4.t hb) ?_
                walk_at "go"
                refine ix_t ((sx.trans s4).t hx) (atI_nat (j := 0) hx0) ?_
                walk_at "go"
                refine len_t hb0 ?_
                walk_at "go"
                refine i_nd (fun ne => ?_) (fun e => ?_)
                · walk_at "go"
                  refine e_mko ?_
                  walk_at "go"
                  refine out _ s4 ?_
                  show (!leadsV ys (its.length : Int) || !decide (ys.length = ilen (its.head?.getD none))) = true
                  rw [hL, decide_eq_false (fun z => ne (by omega))]
                  simp
                · walk_at "go"
                  refine ⟨_, _, rfl, sx.trans s4, fun j J hj hJ' => ?_⟩
                  by_cases hji : j < i
                  · exact hold j J hji hJ'
                  · have : j = i := by omega
                    subst this
                    rw [hI] at hJ'
                    cases hJ'
                    show (!leadsV ys (its.length : Int) || !decide (ys.length = ilen (its.head?.getD none))) = false
                    rw [hL, hv, decide_eq_true (by omega)]
                    rfl
          · obtain ⟨y1, y2, rfl, s, hold⟩ := h
            exact q ⟨n1, n8, fun I hI => by
              obtain ⟨j, hj, e⟩ := List.mem_iff_getElem.mp hI
              exact hold j I (by omega) (by rw [List.getElem?_eq_getElem hj, e])⟩ _ s
      · walk_at "go"
        refine e_mko ?_
        walk_at "go"
        exact ⟨by show 1 ≤ 1000; decide, bad_out (r := none) (.inl rfl) (Same.refl _) (qx none (fun z => by omega))⟩
/-! ### check_good, whatever it is given -/
def ltV : V → V → Bool
  | .int a, .int b => decide (a < b)
  | _, _ => false
def ascV (xs : List V) : Bool := (List.zipWith ltV xs (xs.drop 1)).all id
def goodV (n : Int) : Option (List V) → Bool
  | none => false
  | some xs => (xs.all fun x => below x n) && ascV xs
theorem below_is {x : V} {n : Int} (h : below x n = true) : ∃ i, x = .int i ∧ 0 ≤ i ∧ i < n := by
  cases x with
  | int i =>
    rw [below_int, Bool.and_eq_true] at h
    exact ⟨i, rfl, of_decide_eq_true h.1, of_decide_eq_true h.2⟩
  | _ => cases h
def spGoodX (C : Addr) (K : PySem.W.Frag) : Sp := fun vs H Q E => ∃ (v : V) (n : Int) (G : Option (List V)), vs = [v, .int n] ∧ ItAt K H v G ∧ (goodV n G = true → ∀ H', Same H H' → Q .non H') ∧ (goodV n G = false → ∀ H', Same H H' → E (.ref C) none H')
theorem ok_check_good (T : TxtP P K mg) : FnOk P w K mg base (L2.CX P w) 3 T.a_check_good T.fd_check_good ["good", "stands"] (spGoodX T.C_BadGood K) := by
  refine T.F_check_good.okX sc_check_good (fun vs H Q E h => ?_) (fun cdv A outer s H vs Q E hr h => ?_)
  · obtain ⟨v, n, G, rfl, _⟩ := h
    rfl
  · obtain ⟨v, n, G, rfl, hG, q, qx⟩ := h
    refine ⟨_, (pss_cons (ps_if (pt_not (pt_val (pe_call (ok_are_below T) (hr.mono (by decide)) (by rfl) T.g_are_below T.F_are_below.kp T.b_are_below .nil pass0 (pa_cons (pv 0) (pa_cons (pv 1) pa_nil))))) (pss_one (ps_raise rfl (takes_of rfl rfl rfl rfl) (pmk_own PySem.F.excBase_ValueError T.q_BadGood T.g_BadGood T.k_BadGood (raises_own T.r_BadGood T.t_BadGood) (by rfl)))) pss_nil)
 (pss_one (ps_if (pt_not (pt_val (pe_callB (r := rAll K) (cr_all rfl) (by rfl) T.z_all (by decide +kernel) (pa_cons (pe_lc (own := [("one", 2), ("other", 3)]) (g := (gTup K 2 (gCons (gName 2) (gCons (gName 3) gNil)))) (tt := tYes) rfl sc_check_good.nd (pi_zipA (by rfl) T.z_zip (pa_cons (pv 0) (pa_cons (pe_slice (r := rSlU K) sl_U (pv 0) (po_some pe_int) po_none) pa_nil))) (blkOk_by (N := ["good", "stands", "one", "other"]) (sc := defScope s_check_good) (by decide +kernel)) (fun _ _ _ _ _ => (pg_tup rfl (pgs_cons (pg_name (i := 2) sc_check_good.nd rfl (Or.inl rfl)) (pgs_cons (pg_name (i := 3) sc_check_good.nd rfl (Or.inl rfl)) pgs_nil)))) (fun _ _ _ _ _ => pts_nil) (fun _ _ _ _ _ => (pe_cmpR op_lt (pv 2) (pv 3) (nomark _)))) pa_nil)))) (pss_one (ps_raise rfl (takes_of rfl rfl rfl rfl) (pmk_own PySem.F.excBase_ValueError T.q_BadGood T.g_BadGood T.k_BadGood (raises_own T.r_BadGood T.t_BadGood) (by rfl)))) pss_nil))), ?_⟩
    refine st0 (σ' := [some _, some _, none, none]) rfl ?_
    walk_at "go"
    cases G with
    | none =>
      obtain ⟨t, k, kt⟩ := hG
      refine ⟨_, _, rfl, .inr ⟨t, k, kt, ?_⟩⟩
      walk_at "go"
      exact qx rfl _ (Same.refl _)
    | some xs =>
      obtain ⟨a, rfl, hx, hz, hfl⟩ := hG
      refine ⟨_, _, rfl, .inl ⟨a, xs, rfl, hx, hz, fun y hy => ?_, fun H1 s1 => ?_⟩⟩
      · obtain ⟨t, kt⟩ := Fl.kd (hfl y hy)
        exact ⟨t, fun H' => kt _ H'⟩
      · walk_at "go"
        refine i_nb (fun hv => ?_) (fun hv => ?_)
        · walk_at "go"
          exact qx (by show ((xs.all fun x => below x n) && ascV xs) = false; rw [hv]; rfl) _ s1
        · walk_at "go"
          have hall : ∀ x ∈ xs, below x n = true := List.all_eq_true.mp hv
          refine e_lcZ ?_
          walk_at "go"
          refine sl_t (s1.t hx) fun p H2 s2 h2 => ?_
          walk_at "go"
          refine ⟨a, p, _, _, rfl, .inr ⟨(s1.trans s2).t hx, h2, ?_⟩⟩
          have hcut : cutV xs (some 1) none = xs.drop 1 := by
            unfold cutV
            rw [show HT.sIx xs.length 0 (some 1) = min 1 xs.length from HT.sIx_nat _ 0 1, HT.sIx_none]
            cases xs with
            | nil => rfl
            | cons x r =>
              rw [show min 1 (x :: r).length = 1 by rw [List.length_cons]; omega]
              show List.take (_ - 1) r = r
              exact List.take_of_length_le (by rw [List.length_cons]; omega)
          rw [hcut] at h2
          have hzl : (List.zipWith ltV xs (xs.drop 1)).length = xs.length - 1 := by
            rw [List.length_zipWith, List.length_drop]
            omega
          refine comp_w (walk_zipT (n := xs.length - 1) (by rw [List.length_drop]; omega)) (σw := [some (.ref a), some (.int n), none, none]) (ys := (List.zipWith ltV xs (xs.drop 1)).map V.bl) rfl (by omega) (by rw [List.length_map, hzl]) (fun H' s' => ⟨(s1.trans (s2.trans s')).t hx, s'.t h2⟩) ?_ ?_
          · intro i x y H3 H4 R hi hyi s3 hY hR
            obtain ⟨t, u1, u2, rfl, ht, e4, eu1, eu2⟩ := hY
            obtain ⟨s4, h4⟩ := new_same ht e4
            replace eu1 : xs[i]? = some u1 := eu1
            replace eu2 : (xs.drop 1)[i]? = some u2 := eu2
            have ey : y = .bl (ltV u1 u2) := by
              rw [List.getElem?_map, List.getElem?_zipWith, eu1, eu2] at hyi
              exact (Option.some.inj hyi).symm
            subst ey
            obtain ⟨z1, rfl, _, _⟩ := below_is (hall u1 (List.mem_of_getElem? eu1))
            obtain ⟨z2, rfl, _, _⟩ := below_is (hall u2 (List.mem_of_mem_drop (List.mem_of_getElem? eu2)))
            refine g_pair (sqT h4) (σ' := [some (.ref a), some (.int n), some (.int z1), some (.int z2)]) rfl ?_
            refine ⟨rfl, ?_⟩
            walk_at "go"
            exact hR _ s4
          · intro D2 H3 hD2 s3 hd2
            walk_at "go"
            refine ⟨D2, _, rfl, sqL hd2, ?_⟩
            walk_at "go"
            refine i_nb (fun ha => ?_) (fun ha => ?_)
            · walk_at "go"
              exact qx (by show ((xs.all fun x => below x n) && ascV xs) = false; rw [hv]; exact ha) _ (s1.trans (s2.trans s3))
            · walk_at "go"
              exact q (by show ((xs.all fun x => below x n) && ascV xs) = true; rw [hv]; exact ha) _ (s1.trans (s2.trans s3))
/-! ### Machine.__init__, whatever it is given -/
/-- how it is refused: the class, the dict, the heap behind it -/
def Refd (CS CG : Addr) (S : Option (List (Option (List V)))) (G : Option (List V)) (H : Hp) (E : XK) : Prop :=
  (∀ r, BadAt S r → ∀ (d : Addr) (H' : Hp), H d = none → Same H H' → H' d = some (.xd [("index", idxV r)]) → E (.ref CS) (some d) H') ∧
  (∀ its, S = some its → OkSt S → goodV (its.length : Int) G = false → ∀ H', Same H H' → E (.ref CG) none H')
def spMachX (C CS CG : Addr) (K : PySem.W.Frag) : Sp := fun vs H Q E => ∃ (p dx : Addr) (v vg : V) (S : Option (List (Option (List V)))) (G : Option (List V)), vs = [.ref p, v, vg] ∧ H p = some (.ins C dx []) ∧ StAt K H v S ∧ ItAt K H vg G ∧ Refd CS CG S G H E ∧
  (∀ its, S = some its → OkSt S → goodV (its.length : Int) G = true → ∀ H', H' p = some (.ins C dx (mflds v vg)) → But [p] H H' → Q .non H')
theorem ok_Machine_init (T : TxtP P K mg) : FnOk P w K mg base (L2.CX P w) 5 T.a_Machine_init T.fd_Machine_init ["self", "steps", "good"] (spMachX T.C_Machine T.C_BadSteps T.C_BadGood K) := by
  refine T.F_Machine_init.okX sc_Machine_init (fun vs H Q E h => ?_) (fun cdv A outer s H vs Q E hr h => ?_)
  · obtain ⟨p, dx, v, vg, S, G, rfl, _⟩ := h
    rfl
  · obtain ⟨p, dx, v, vg, S, G, rfl, hp, hS, hG, ⟨x1, x2⟩, q⟩ := h
    refine ⟨_, (pss_cons (ps_expr (pe_call (ok_check_steps T) (hr.mono (by decide)) (by rfl) T.g_check_steps T.F_check_steps.kp T.b_check_steps .nil (passes_call (takes_of rfl rfl rfl rfl) (fun _ _ _ _ h => h)) (pa_cons (pv 1) pa_nil)))
 (pss_cons (ps_expr (pe_call (ok_check_good T) (hr.mono (by decide)) (by rfl) T.g_check_good T.F_check_good.kp T.b_check_good .nil (passes_call (takes_of rfl rfl rfl rfl) (fun _ _ _ _ h => h)) (pa_cons (pv 2) (pa_cons (pe_callB (r := rLenU K) call_lenU (by rfl) T.z_len (by decide +kernel) (pa_cons (pv 1) pa_nil)) pa_nil))))
 (pss_cons (ps_fld (pv 0) (pv 1) rfl)
 (pss_one (ps_fld (pv 0) (pv 2) rfl))))), ?_⟩
    refine st0 (σ' := [some _, some _, some _]) rfl ?_
    walk_at "go"
    refine ⟨v, S, rfl, hS, fun ok H1 s1 => ?_, x1⟩
    walk_at "go"
    cases S with
    | none => exact False.elim ok
    | some its =>
      obtain ⟨a, xs, rfl, hx, hlen, hz, hxp⟩ := id hS
      refine len_t (s1.t hx) ?_
      walk_at "go"
      have hlz : (xs.length : Int) = (its.length : Nat) := by omega
      rw [hlz]
      refine ⟨vg, _, G, rfl, hG.same s1, fun hg H2 s2 => ?_, fun hg H2 s2 => x2 its rfl ok hg _ (s1.trans s2)⟩
      have s3 := s1.trans s2
      walk_at "go"
      refine ⟨.ref a, rfl, .ref p, rfl, p, T.C_Machine, dx, [], rfl, s3 _ _ hp, T.c_Machine, T.n_Machine__steps, by decide, ?_⟩
      walk_at "go"
      refine ⟨vg, rfl, .ref p, rfl, p, T.C_Machine, dx, _, rfl, upd_same, T.c_Machine, T.n_Machine__good, (by show 1 < 1000; decide), ?_⟩
      walk_at "go"
      refine q its rfl ok hg _ upd_same fun b o hb nb => ?_
      have nb' : b ≠ p := fun e => nb (by rw [e]; exact List.mem_cons_self)
      rw [upd_ne nb', upd_ne nb']
      exact s3 _ _ hb
/-! ### tuples of ints, and of such, held against one another -/
def intsD (ns : List Int) : PyData := .tuple (ns.map PyData.int)
def rowsD (rows : List (List Int)) : PyData := .tuple (rows.map intsD)
theorem eqv_all_ints : ∀ a b : List Int, PyData.eqvAll (a.map PyData.int) (b.map PyData.int) = decide (a = b)
  | [], [] => by simp [PyData.eqvAll]
  | [], _ :: _ => by simp [PyData.eqvAll]
  | _ :: _, [] => by simp [PyData.eqvAll]
  | x :: a, y :: b => by
    rw [List.map_cons, List.map_cons, PyData.eqvAll, eqv_all_ints a b, PyData.eqv]
    by_cases h1 : x = y
    · subst h1
      by_cases h2 : a = b
      · subst h2
        simp
      · simp [h2]
    · simp [h1]
theorem eqv_ints (a b : List Int) : PyData.eqv (intsD a) (intsD b) = decide (a = b) := by
  unfold intsD
  rw [PyData.eqv]
  exact eqv_all_ints a b
theorem eqv_all_rows : ∀ a b : List (List Int), PyData.eqvAll (a.map intsD) (b.map intsD) = decide (a = b)
  | [], [] => by simp [PyData.eqvAll]
  | [], _ :: _ => by simp [PyData.eqvAll]
  | _ :: _, [] => by simp [PyData.eqvAll]
  | x :: a, y :: b => by
    rw [List.map_cons, List.map_cons, PyData.eqvAll, eqv_all_rows a b, eqv_ints]
    by_cases h1 : x = y
    · subst h1
      by_cases h2 : a = b
      · subst h2
        simp
      · simp [h2]
    · simp [h1]
theorem eqv_rows (a b : List (List Int)) : PyData.eqv (rowsD a) (rowsD b) = decide (a = b) := by
  unfold rowsD
  rw [PyData.eqv]
  exact eqv_all_rows a b
theorem dpAll_ints {K : PySem.W.Frag} {H : Hp} : ∀ ns : List Int, DpAll K H (ns.map V.int) (ns.map PyData.int)
  | [] => .nil
  | n :: ns => .cons (.int n) (dpAll_ints ns)
theorem IntsT.dp {K : PySem.W.Frag} {H : Hp} {v : V} {ns : List Int} (h : IntsT K H v ns) : Dp K H v (intsD ns) := by
  obtain ⟨a, rfl, h⟩ := h
  exact .tup h (dpAll_ints ns)
theorem dpAll_rows {K : PySem.W.Frag} {H : Hp} : ∀ (xs : List V) (rows : List (List Int)), xs.length = rows.length → (∀ (i : Nat) (x : V) (r : List Int), xs[i]? = some x → rows[i]? = some r → IntsT K H x r) → DpAll K H xs (rows.map intsD)
  | [], [], _, _ => .nil
  | x :: xs, r :: rows, hl, h => .cons (h 0 x r rfl rfl).dp (dpAll_rows xs rows (Nat.succ.inj hl) fun i x r h1 h2 => h (i + 1) x r h1 h2)
  | [], _ :: _, hl, _ => by cases hl
  | _ :: _, [], hl, _ => by cases hl
theorem RowsT.dp {K : PySem.W.Frag} {H : Hp} {v : V} {rows : List (List Int)} (h : RowsT K H v rows) : Dp K H v (rowsD rows) := by
  obtain ⟨a, xs, rfl, h, hl, hp⟩ := h
  exact .tup h (dpAll_rows xs rows hl hp)
theorem lay_ints : ∀ ns : List Int, PyData.canLayAll0 (ns.map PyData.int) = true
  | [] => by simp [PyData.canLayAll0]
  | n :: ns => by
    rw [List.map_cons, PyData.canLayAll0, lay_ints ns, PyData.canLay0]
    rfl
theorem lay_rows : ∀ rows : List (List Int), PyData.canLayAll0 (rows.map intsD) = true
  | [] => by simp [PyData.canLayAll0]
  | r :: rows => by
    rw [List.map_cons, PyData.canLayAll0, lay_rows rows]
    unfold intsD
    rw [PyData.canLay0, lay_ints]
    rfl
theorem dep_ints : ∀ ns : List Int, PyData.depthAll (ns.map PyData.int) = 0
  | [] => by simp [PyData.depthAll]
  | n :: ns => by
    rw [List.map_cons, PyData.depthAll, dep_ints ns, PyData.depth]
    rfl
theorem dep_rows : ∀ rows : List (List Int), PyData.depthAll (rows.map intsD) ≤ 1
  | [] => by simp [PyData.depthAll]
  | r :: rows => by
    rw [List.map_cons, PyData.depthAll]
    have h1 : PyData.depth (intsD r) = 1 := by
      unfold intsD
      rw [PyData.depth, dep_ints]
    have h2 := dep_rows rows
    rw [h1]
    omega
theorem sh_ints (ns : List Int) : SeqAt.shaped (intsD ns) = true := by
  unfold SeqAt.shaped intsD
  rw [PyData.canLay0, lay_ints, PyData.depth, dep_ints]
  rfl
theorem sh_rows (rows : List (List Int)) : SeqAt.shaped (rowsD rows) = true := by
  unfold SeqAt.shaped rowsD
  have h := dep_rows rows
  rw [PyData.canLay0, lay_rows, PyData.depth, decide_eq_true (by omega)]
  rfl
theorem eq_ints {K : PySem.W.Frag} {H : Hp} {v u : V} {a b : List Int} {Q : VK} (hv : IntsT K H v a) (hu : IntsT K H u b) (q : Q (.bl (decide (a = b))) H) : rEqU K v u H Q := by
  refine .inr ⟨_, _, hv.dp, hu.dp, sh_ints a, sh_ints b, ?_⟩
  rw [eqv_ints]
  exact q
theorem eq_rows {K : PySem.W.Frag} {H : Hp} {v u : V} {a b : List (List Int)} {Q : VK} (hv : RowsT K H v a) (hu : RowsT K H u b) (q : Q (.bl (decide (a = b))) H) : rEqU K v u H Q := by
  refine .inr ⟨_, _, hv.dp, hu.dp, sh_rows a, sh_rows b, ?_⟩
  rw [eqv_rows]
  exact q
/-! ### Machine.__eq__, Machine.__len__ -/
def spMachEq (C : Addr) (K : PySem.W.Frag) : Sp := fun vs H Q _ => ∃ (a dx : Addr) (v1 v2 u : V) (r1 : List (List Int)) (g1 : List Int), vs = [.ref a, u] ∧ H a = some (.ins C dx (mflds v1 v2)) ∧ RowsT K H v1 r1 ∧ IntsT K H v2 g1 ∧
  ((∃ (r2 : List (List Int)) (g2 : List Int), MachAt C K H u r2 g2 ∧ Q (.bl (decide (r1 = r2) && decide (g1 = g2))) H) ∨ (∃ b xs, u = .ref b ∧ SqT K H b xs ∧ Q (.bl false) H))
theorem ty_mach (T : TxtP P K mg) {H : Hp} {a dx : Addr} {fs : List (Str × V)} (h : H a = some (.ins T.C_Machine dx fs)) : TyX K H (.ref a) (.ref T.C_Machine) := .base (.ins h T.c_Machine T.ca_Machine T.cn_Machine T.ct_Machine T.cm_Machine)
theorem isi_c {x : V} {H : Hp} {t : Value} {C : Addr} {b : Bool} {Q : VK} (h : TyX K H x t) (k : PySem.W.kitOne K t (.ref C) = some b) (q : Q (.bl b) H) : rIsi K [x, .ref C] H Q := ⟨x, .ref C, _, _, b, rfl, .own C, h, k, q⟩
theorem ok_Machine_eq (T : TxtP P K mg) : FnOk P w K mg base CX0 1 T.a_Machine_eq T.fd_Machine_eq ["self", "other"] (spMachEq T.C_Machine K) := by
  refine T.F_Machine_eq.ok sc_Machine_eq (fun vs H Q E h => ?_) (fun cdv A outer s H vs Q E hr h => ?_)
  · obtain ⟨a, dx, v1, v2, u, r1, g1, rfl, _⟩ := h
    rfl
  · obtain ⟨a, dx, v1, v2, u, r1, g1, rfl, ha, h1, h2, h⟩ := h
    refine ⟨_, (pss_one (ps_ret (pe_and (pe_callB (r := rIsi K) call_isi (by rfl) T.z_isinstance (by decide +kernel) (pa_cons (pv 1) (pa_cons (pe_glob (v := .ref T.C_Machine) (by rfl) T.g_Machine rfl) pa_nil))) (pe_and (pe_cmpR (r := rEqU K) (op_eqU hr.units) (pe_fld (pv 0) rfl) (pe_fld (pv 1) rfl) (nomark _)) (pe_one (pe_cmpR (r := rEqU K) (op_eqU hr.units) (pe_fld (pv 0) rfl) (pe_fld (pv 1) rfl) (nomark _))))))), ?_⟩
    refine st0 (σ' := [some _, some _]) rfl ?_
    walk_at "go"
    rcases h with ⟨r2, g2, hM, q⟩ | ⟨b, xs, rfl, hb, q⟩
    · obtain ⟨b, dy, u1, u2, rfl, hb, k1, k2⟩ := hM.ex
      refine isi_c (ty_mach T hb) (kit_c T.ic_Machine T.t_Machine T.sb_Machine_Machine (fun _ => rfl)) ?_
      walk_at "go"
      refine ⟨.ref a, rfl, a, T.C_Machine, dx, _, v1, rfl, ha, T.c_Machine, T.n_Machine__steps, mf_steps v1 v2, ?_⟩
      refine ⟨.ref b, rfl, b, T.C_Machine, dy, _, u1, rfl, hb, T.c_Machine, T.n_Machine__steps, mf_steps u1 u2, ?_⟩
      refine eq_rows h1 k1 ⟨_, rfl, ?_⟩
      refine i_d (fun e1 => ?_) (fun e1 => ?_)
      · refine e_op ?_
        refine ⟨.ref a, rfl, a, T.C_Machine, dx, _, v2, rfl, ha, T.c_Machine, T.n_Machine__good, mf_good v1 v2, ?_⟩
        refine ⟨.ref b, rfl, b, T.C_Machine, dy, _, u2, rfl, hb, T.c_Machine, T.n_Machine__good, mf_good u1 u2, ?_⟩
        refine eq_ints h2 k2 ?_
        rw [decide_eq_true e1] at q
        exact q
      · rw [decide_eq_false e1] at q
        exact q
    · refine isi_c (tyx_t hb) (kit_c T.ic_Machine T.t_Machine T.sb_tuple_Machine (fun z => by cases z)) ?_
      walk_at "go"
      exact q
def spMachLen (C : Addr) (K : PySem.W.Frag) : Sp := fun vs H Q _ => ∃ (a dx : Addr) (v1 v2 : V) (r1 : List (List Int)), vs = [.ref a] ∧ H a = some (.ins C dx (mflds v1 v2)) ∧ RowsT K H v1 r1 ∧ Q (.int (r1.length : Nat)) H
theorem ok_Machine_len (T : TxtP P K mg) : FnOk P w K mg base CX0 1 T.a_Machine_len T.fd_Machine_len ["self"] (spMachLen T.C_Machine K) := by
  refine T.F_Machine_len.ok sc_Machine_len (fun vs H Q E h => ?_) (fun cdv A outer s H vs Q E hr h => ?_)
  · obtain ⟨a, dx, v1, v2, r1, rfl, _⟩ := h
    rfl
  · obtain ⟨a, dx, v1, v2, r1, rfl, ha, h1, q⟩ := h
    refine ⟨_, (pss_one (ps_ret (pe_callB (r := rLenU K) call_lenU (by rfl) T.z_len (by decide +kernel) (pa_cons (pe_fld (pv 0) rfl) pa_nil)))), ?_⟩
    refine st0 (σ' := [some _]) rfl ?_
    walk_at "go"
    refine ⟨.ref a, rfl, a, T.C_Machine, dx, _, v1, rfl, ha, T.c_Machine, T.n_Machine__steps, mf_steps v1 v2, ?_⟩
    walk_at "go"
    obtain ⟨b, xs, rfl, hb, hl, _⟩ := h1
    refine len_t hb ?_
    rw [hl]
    exact q
/-! ### comprehensions with a test -/
section
variable {K : PySem.W.Frag} {a : Addr} {xs : List V} {g : TG} {tt : TT} {te : TE} {vs : List Nat} {σ σw : St} {H : Hp} {QD : Addr → Hp → Prop}
theorem comp_tf {a : Addr} (pr : V → Bool) (hw : wipe σ vs = σw) (hx : SqT K H a xs) (hl : xs.length ≤ 1000)
    (he : ∀ (i : Nat) (x : V) (H2 : Hp) (R : L2.St → Bool → Hp → Prop), xs[i]? = some x → Same H H2 → (∀ σ2 H4, Same H2 H4 → (pr x = true → ∀ Q2 : VK, (∀ H5, Same H4 H5 → Q2 x H5) → te σ2 H4 Q2) → R σ2 (pr x) H4) → g x σw H2 fun σ2 H4 => wipe σ2 vs = σw ∧ tt σ2 H4 (R σ2))
    (q : ∀ D H', H D = none → Same H H' → H' D = some (.lst (xs.filter pr)) → QD D H') :
    (∃ a', V.ref a = .ref a' ∧ (∃ xs, SqT K H a' xs) ∧ ∀ D, H D = none → ∃ W : Nat → Nat → Hp → Prop, (∃ m, W 0 m (upd H D (.lst []))) ∧ ∀ i m H, W i m H →
      ((Itt K a').stop i H ∧ QD D H) ∨ ((Itt K a').go i H ∧ ∃ Nx : Hp → Prop, (∀ H', Nx H' → ∃ m', m' < m ∧ W (i + 1) m' H') ∧ ∀ x H', (Itt K a').yld i H x H' → g x (wipe σ vs) H' fun σ2 H2 => wipe σ2 vs = wipe σ vs ∧ tt σ2 H2 fun b H3 =>
        if b = true then te σ2 H3 fun y H4 => ∃ acc, H4 D = some (.lst acc) ∧ acc.length < sizeLine ∧ Nx (upd H4 D (.lst (acc ++ [y]))) else Nx H3)) := by
  refine ⟨a, rfl, ⟨xs, hx⟩, fun D hD => ?_⟩
  refine lc_tup (K := K) (a := a) (xs := xs) (fun i H' => Same H H' ∧ H' D = some (.lst ((xs.take i).filter pr))) ⟨same_upd hD, upd_same⟩ (fun i H' _ h => h.1.t hx) (fun i x H2 hi h => ?_) fun H' h => ?_
  · rw [hw]
    obtain ⟨hs, hd⟩ := h
    have et : xs.take (i + 1) = xs.take i ++ [x] := by
      rw [List.take_add_one, hi]
      rfl
    refine he i x H2 (fun σ2 b H3 => if b = true then te σ2 H3 fun y H4 => ∃ acc, H4 D = some (.lst acc) ∧ acc.length < sizeLine ∧ Same H (upd H4 D (.lst (acc ++ [y]))) ∧ upd H4 D (.lst (acc ++ [y])) D = some (.lst ((xs.take (i + 1)).filter pr)) else Same H H3 ∧ H3 D = some (.lst ((xs.take (i + 1)).filter pr))) hi hs fun σ2 H4 s4 ht => ?_
    rw [et, List.filter_append]
    cases hp : pr x with
    | true =>
      refine iteT (ht hp _ fun H5 s5 => ⟨(xs.take i).filter pr, s5 _ _ (s4 _ _ hd), ?_, ?_, ?_⟩)
      · refine Nat.lt_of_le_of_lt (List.length_filter_le _ _) ?_
        rw [List.length_take]
        exact Nat.lt_of_le_of_lt (Nat.min_le_right _ _) (small1000 hl)
      · intro b o hb
        have nb : b ≠ D := ne_of_none hb hD
        rw [upd_ne nb]
        exact s5 _ _ (s4 _ _ (hs _ _ hb))
      · rw [upd_same, List.filter_cons_of_pos (by exact hp)]
        rfl
    | false =>
      refine iteF ⟨hs.trans s4, ?_⟩
      rw [List.filter_cons_of_neg (by rw [hp]; exact Bool.false_ne_true), List.filter_nil, List.append_nil]
      exact s4 _ _ hd
  · rw [List.take_length] at h
    exact q D H' hD h.1 h.2
theorem comp_rf {lo : Int} {n : Nat} (pr : Nat → Bool) (hw : wipe σ vs = σw) (hl : n ≤ 1000)
    (he : ∀ (i : Nat) (H2 : Hp) (R : L2.St → Bool → Hp → Prop), i < n → Same H H2 → (∀ σ2 H4, Same H2 H4 → (pr i = true → ∀ Q2 : VK, (∀ H5, Same H4 H5 → Q2 (.int (lo + (i : Nat))) H5) → te σ2 H4 Q2) → R σ2 (pr i) H4) → g (.int (lo + (i : Nat))) σw H2 fun σ2 H4 => wipe σ2 vs = σw ∧ tt σ2 H4 (R σ2))
    (q : ∀ D H', H D = none → Same H H' → H' D = some (.lst (((List.range n).filter pr).map fun (i : Nat) => V.int (lo + (i : Nat)))) → QD D H') :
    ∀ D, H D = none → ∃ W : Nat → Nat → Hp → Prop, (∃ m, W 0 m (upd H D (.lst []))) ∧ ∀ i m H, W i m H →
      ((Itr lo n).stop i H ∧ QD D H) ∨ ((Itr lo n).go i H ∧ ∃ Nx : Hp → Prop, (∀ H', Nx H' → ∃ m', m' < m ∧ W (i + 1) m' H') ∧ ∀ x H', (Itr lo n).yld i H x H' → g x (wipe σ vs) H' fun σ2 H2 => wipe σ2 vs = wipe σ vs ∧ tt σ2 H2 fun b H3 =>
        if b = true then te σ2 H3 fun y H4 => ∃ acc, H4 D = some (.lst acc) ∧ acc.length < sizeLine ∧ Nx (upd H4 D (.lst (acc ++ [y]))) else Nx H3) := by
  intro D hD
  refine lc_range (fun i H' => Same H H' ∧ H' D = some (.lst (((List.range i).filter pr).map fun (i : Nat) => V.int (lo + (i : Nat))))) ⟨same_upd hD, upd_same⟩ (fun i H2 hi h => ?_) fun H' h => q D H' hD h.1 h.2
  rw [hw]
  obtain ⟨hs, hd⟩ := h
  refine he i H2 (fun σ2 b H3 => if b = true then te σ2 H3 fun y H4 => ∃ acc, H4 D = some (.lst acc) ∧ acc.length < sizeLine ∧ Same H (upd H4 D (.lst (acc ++ [y]))) ∧ upd H4 D (.lst (acc ++ [y])) D = some (.lst (((List.range (i + 1)).filter pr).map fun (i : Nat) => V.int (lo + (i : Nat)))) else Same H H3 ∧ H3 D = some (.lst (((List.range (i + 1)).filter pr).map fun (i : Nat) => V.int (lo + (i : Nat))))) hi hs fun σ2 H4 s4 ht => ?_
  rw [List.range_succ, List.filter_append, List.map_append]
  cases hp : pr i with
  | true =>
    refine iteT (ht hp _ fun H5 s5 => ⟨_, s5 _ _ (s4 _ _ hd), ?_, ?_, ?_⟩)
    · rw [List.length_map]
      refine Nat.lt_of_le_of_lt (List.length_filter_le _ _) ?_
      rw [List.length_range]
      exact small1000 (by omega)
    · intro b o hb
      have nb : b ≠ D := ne_of_none hb hD
      rw [upd_ne nb]
      exact s5 _ _ (s4 _ _ (hs _ _ hb))
    · rw [upd_same, List.filter_cons_of_pos (by exact hp)]
      rfl
  | false =>
    refine iteF ⟨hs.trans s4, ?_⟩
    rw [List.filter_cons_of_neg (by rw [hp]; exact Bool.false_ne_true), List.filter_nil, List.map_nil, List.append_nil]
    exact s4 _ _ hd
end
/-- a list of flat values, against the empty list -/
theorem dpAll_fl {K : PySem.W.Frag} {H : Hp} : ∀ xs : List V, (∀ x ∈ xs, Fl x = true) → ∃ ds, DpAll K H xs ds ∧ PyData.canLayAll0 ds = true ∧ PyData.depthAll ds = 0 ∧ ds.length = xs.length
  | [], _ => ⟨[], .nil, by simp [PyData.canLayAll0], by simp [PyData.depthAll], rfl⟩
  | x :: xs, h => by
    obtain ⟨ds, d1, d2, d3, d4⟩ := dpAll_fl xs fun y hy => h y (List.mem_cons_of_mem _ hy)
    have hx := h x List.mem_cons_self
    have one : ∃ d, Dp K H x d ∧ d.canLay0 = true ∧ d.depth = 0 := by
      cases x with
      | non => exact ⟨.none, .non, by simp [PyData.canLay0], by simp [PyData.depth]⟩
      | bl b => exact ⟨.bool b, .bl b, by simp [PyData.canLay0], by simp [PyData.depth]⟩
      | int i => exact ⟨.int i, .int i, by simp [PyData.canLay0], by simp [PyData.depth]⟩
      | str z => exact ⟨.str z, .str z, hx, by simp [PyData.depth]⟩
      | _ => cases hx
    obtain ⟨d, e1, e2, e3⟩ := one
    refine ⟨d :: ds, .cons e1 d1, ?_, ?_, ?_⟩
    · rw [PyData.canLayAll0, e2, d2]
      rfl
    · rw [PyData.depthAll, e3, d3]
      rfl
    · rw [List.length_cons, List.length_cons, d4]
theorem ne_nil {K : PySem.W.Frag} {H : Hp} {a b : Addr} {xs : List V} {Q : VK} (ha : H a = some (.lst xs)) (hf : ∀ x ∈ xs, Fl x = true) (hb : H b = some (.lst [])) (q : Q (.bl (!decide (xs = []))) H) : rNeU K (.ref a) (.ref b) H Q := by
  obtain ⟨ds, d1, d2, d3, d4⟩ := dpAll_fl (K := K) (H := H) xs hf
  refine .inr ⟨.list ds, .list [], .lst (sqL ha) d1, .lst (sqL hb) .nil, ?_, rfl, ?_⟩
  · unfold SeqAt.shaped
    rw [PyData.canLay0, d2, PyData.depth, d3]
    rfl
  · have e : PyData.eqv (.list ds) (.list []) = decide (xs = []) := by
      rw [PyData.eqv]
      cases ds with
      | nil =>
        have : xs = [] := List.eq_nil_of_length_eq_zero d4.symm
        subst this
        simp [PyData.eqvAll]
      | cons d ds =>
        have : xs ≠ [] := fun z => by
          rw [z] at d4
          cases d4
        simp [PyData.eqvAll, this]
    rw [e]
    exact q
theorem ok__law_stand (T : TxtP P K mg) : FnOk P w K mg base CX0 1 T.a__law_stand T.fd__law_stand ["_law_thing", "_law_many"] (spBelow K) := by
  refine T.F__law_stand.ok sc__law_stand (fun vs H Q E h => ?_) (fun cdv A outer s H vs Q E hr h => ?_)
  · obtain ⟨x, n, t, rfl, _⟩ := h
    rfl
  · obtain ⟨x, n, t, rfl, k, q⟩ := h
    refine ⟨_, (pss_one (ps_ret (pe_and (pe_callB (r := rIsi K) call_isi (by rfl) T.z_isinstance (by decide +kernel) (pa_cons (pv 0) (pa_cons (pe_bltn (v := .ty "int") (by rfl) T.z_int (by decide +kernel) rfl) pa_nil))) (pe_and (pe_not (pe_callB (r := rIsi K) call_isi (by rfl) T.z_isinstance (by decide +kernel) (pa_cons (pv 0) (pa_cons (pe_bltn (v := .ty "bool") (by rfl) T.z_bool (by decide +kernel) rfl) pa_nil)))) (pe_one (pe_chain op_le op_lt pe_int (pv 0) (pv 1))))))), ?_⟩
    refine st0 (σ' := [some _, some _]) rfl ?_
    cases k with
    | int i =>
      walk_at "go"
      refine isi (Kd.int i).ty kb_ii ?_
      walk_at "go"
      refine isi (Kd.int i).ty kb_ib ?_
      walk_at "go"
      refine i_d (fun h0 => ?_) (fun h0 => ?_)
      · walk_at "go"
        rw [show below (.int i) n = decide (i < n) by rw [below_int, decide_eq_true h0]; rfl] at q
        exact q
      · walk_at "go"
        rw [show below (.int i) n = false by rw [below_int, decide_eq_false h0]; rfl] at q
        exact q
    | bl b =>
      walk_at "go"
      refine isi (Kd.bl b).ty kb_bi ?_
      walk_at "go"
      refine isi (Kd.bl b).ty kb_bb ?_
      walk_at "go"
      exact q
    | non =>
      walk_at "go"
      refine isi Kd.non.ty kb_ni ?_
      walk_at "go"
      exact q
    | str z =>
      walk_at "go"
      refine isi (Kd.str z).ty kb_si ?_
      walk_at "go"
      exact q
    | tup hh =>
      walk_at "go"
      refine isi (Kd.tup hh).ty kb_ti ?_
      walk_at "go"
      exact q
    | lst hh =>
      walk_at "go"
      refine isi (Kd.lst hh).ty kb_li ?_
      walk_at "go"
      exact q
/-! ### _law_fault -/
theorem e_lcR2 {tr : TA} {g : TG} {tt : TT} {te : TE} {ws : List Nat} {σ : St} {H : Hp} {Q : VK} (q : tr σ H fun vs H1 => ∃ i j : Int, vs = [.int i, .int j] ∧ (-(2 ^ 62) ≤ i ∧ i < 2 ^ 62 ∧ -(2 ^ 62) ≤ j ∧ j < 2 ^ 62) ∧ ∀ D, H1 D = none → ∃ W : Nat → Nat → Hp → Prop, (∃ m, W 0 m (upd H1 D (.lst []))) ∧ ∀ n m H, W n m H →
  ((Itr i (j - i).toNat).stop n H ∧ Q (.ref D) H) ∨ ((Itr i (j - i).toNat).go n H ∧ ∃ Nx : Hp → Prop, (∀ H', Nx H' → ∃ m', m' < m ∧ W (n + 1) m' H') ∧ ∀ x H', (Itr i (j - i).toNat).yld n H x H' → g x (wipe σ ws) H' fun σ2 H2 => wipe σ2 ws = wipe σ ws ∧ tt σ2 H2 fun b H3 =>
    if b = true then te σ2 H3 fun y H4 => ∃ acc, H4 D = some (.lst acc) ∧ acc.length < sizeLine ∧ Nx (upd H4 D (.lst (acc ++ [y]))) else Nx H3)) : tLc (iRng2 tr) g tt te ws σ H Q := q
def falls (gs : List V) (i : Nat) : Bool := match gs[i]?, gs[i + 1]? with
  | some x, some y => !ltV x y
  | _, _ => false
theorem falls_at {gs : List V} {i : Nat} {x y : V} (h1 : gs[i]? = some x) (h2 : gs[i + 1]? = some y) : falls gs i = !ltV x y := by
  unfold falls
  rw [h1, h2]
theorem asc_falls {gs : List V} (h : ascV gs = true) {i : Nat} (hi : i < gs.length - 1) : falls gs i = false := by
  have h1 : gs[i]? = some (gs[i]'(by omega)) := List.getElem?_eq_getElem (by omega)
  have h2 : gs[i + 1]? = some (gs[i + 1]'(by omega)) := List.getElem?_eq_getElem (by omega)
  rw [falls_at h1 h2]
  have hm : ltV (gs[i]'(by omega)) (gs[i + 1]'(by omega)) ∈ List.zipWith ltV gs (gs.drop 1) := by
    refine List.mem_iff_getElem?.mpr ⟨i, ?_⟩
    rw [List.getElem?_zipWith, h1, List.getElem?_drop, Nat.add_comm 1 i, h2]
  have := List.all_eq_true.mp h _ hm
  rw [show ltV (gs[i]'(by omega)) (gs[i + 1]'(by omega)) = true from this]
  rfl
theorem falls_asc {gs : List V} (h : ∀ i, i < gs.length - 1 → falls gs i = false) : ascV gs = true := by
  refine List.all_eq_true.mpr fun b hb => ?_
  obtain ⟨i, hi⟩ := List.mem_iff_getElem?.mp hb
  have hlt : i < gs.length - 1 := by
    have := (List.getElem?_eq_some_iff.mp hi).1
    rw [List.length_zipWith, List.length_drop] at this
    omega
  have h1 : gs[i]? = some (gs[i]'(by omega)) := List.getElem?_eq_getElem (by omega)
  have h2 : gs[i + 1]? = some (gs[i + 1]'(by omega)) := List.getElem?_eq_getElem (by omega)
  rw [List.getElem?_zipWith, h1, List.getElem?_drop, Nat.add_comm 1 i, h2] at hi
  have := h i hlt
  rw [falls_at h1 h2, Option.some.inj hi] at this
  cases b with
  | true => rfl
  | false => cases this
theorem asc_nil (gs : List V) : ((((List.range (gs.length - 1)).filter (falls gs)).map fun (i : Nat) => V.int (1 + (i : Nat))) = []) ↔ ascV gs = true := by
  rw [List.map_eq_nil_iff, List.filter_eq_nil_iff]
  constructor
  · intro h
    refine falls_asc fun i hi => ?_
    have := h i (List.mem_range.mpr hi)
    cases hf : falls gs i with
    | false => rfl
    | true => exact absurd hf this
  · intro h i hi
    rw [asc_falls h (List.mem_range.mp hi)]
    exact Bool.false_ne_true
/-- the list that tells of steps that can't stand, or of good stands -/
def toldS (r : Option Nat) : List V := [.str "steps", idxV r]
def toldG : List V := [.str "good"]
def spFault (K : PySem.W.Frag) : Sp := fun vs H Q _ => ∃ (v vg : V) (S : Option (List (Option (List V)))) (G : Option (List V)), vs = [v, vg] ∧ StAt K H v S ∧ ItAt K H vg G ∧
  (∀ r, BadAt S r → ∀ p H', H p = none → Same H H' → H' p = some (.lst (toldS r)) → Q (.ref p) H') ∧
  (∀ its, S = some its → OkSt S → goodV (its.length : Int) G = false → ∀ p H', H p = none → Same H H' → H' p = some (.lst toldG) → Q (.ref p) H') ∧
  (∀ its, S = some its → OkSt S → goodV (its.length : Int) G = true → ∀ H', Same H H' → Q .non H')
theorem ok__law_fault (T : TxtP P K mg) : FnOk P w K mg base CX0 2 T.a__law_fault T.fd__law_fault ["_law_steps", "_law_good"] (spFault K) := by
  refine T.F__law_fault.ok sc__law_fault (fun vs H Q E h => ?_) (fun cdv A outer s H vs Q E hr h => ?_)
  · obtain ⟨v, vg, S, G, rfl, _⟩ := h
    rfl
  · obtain ⟨v, vg, S, G, rfl, hS, hG, q1, q2, q3⟩ := h
    refine ⟨_, (pss_cons (ps_if (PW.pt (pw_or (pt_not (pt_val (pe_callB (r := rIsi K) call_isi (by rfl) T.z_isinstance (by decide +kernel) (pa_cons (pv 0) (pa_cons (pe_bltn (v := .ty "tuple") (by rfl) T.z_tuple (by decide +kernel) rfl) pa_nil))))) (pw_or1 (pt_not (pt_chain op_le op_le pe_int (pe_callB (r := rLenU K) call_lenU (by rfl) T.z_len (by decide +kernel) (pa_cons (pv 0) pa_nil)) pe_int))))) (pss_one (ps_ret (pe_lst (pa_cons pe_str (pa_cons pe_non pa_nil))))) pss_nil)
 (pss_cons (ps_for PassesOwn.never rfl (pi_range1 rfl T.z_range (pa_cons (pe_callB (r := rLenU K) call_lenU (by rfl) T.z_len (by decide +kernel) (pa_cons (pv 0) pa_nil)) pa_nil)) (pg_name (i := 2) sc__law_fault.nd rfl (Or.inl rfl))
 (pss_cons (ps_set (i := 3) sc__law_fault.nd rfl (Or.inl rfl) (pe_ix (r := rIx K) ix_seq (pv 0) (pv 2) (fun _ _ => rfl)))
 (pss_cons (ps_if (PW.pt (pw_or (pt_not (pt_val (pe_callB (r := rIsi K) call_isi (by rfl) T.z_isinstance (by decide +kernel) (pa_cons (pv 3) (pa_cons (pe_bltn (v := .ty "tuple") (by rfl) T.z_tuple (by decide +kernel) rfl) pa_nil))))) (pw_or (pt_not (pt_chain op_le op_le pe_int (pe_callB (r := rLenU K) call_lenU (by rfl) T.z_len (by decide +kernel) (pa_cons (pv 3) pa_nil)) pe_int)) (pw_or1 (pt_cmpR (r := rNeU K) (op_neU hr.units) (pe_callB (r := rLenU K) call_lenU (by rfl) T.z_len (by decide +kernel) (pa_cons (pv 3) pa_nil)) (pe_callB (r := rLenU K) call_lenU (by rfl) T.z_len (by decide +kernel) (pa_cons (pe_ix (r := rIx K) ix_seq (pv 0) pe_int (fun _ _ => rfl)) pa_nil)) (nomark _)))))) (pss_one (ps_ret (pe_lst (pa_cons pe_str (pa_cons (pv 2) pa_nil))))) pss_nil)
 (pss_one (ps_if (pt_cmpR (r := rNeU K) (op_neU hr.units) (pe_lc (own := [("_law_one", 5)]) (g := (gName 5)) rfl sc__law_fault.nd (pi_seq (pv 3)) (blkOk_by (N := ["_law_steps", "_law_good", "_law_k", "_law_row", "_law_falls", "_law_one"]) (sc := defScope s__law_fault) (by decide +kernel)) (fun _ _ _ _ _ => (pg_name (i := 5) sc__law_fault.nd rfl (Or.inl rfl))) (fun _ _ _ _ _ => pts_one (pt_not (pt_val (pe_call (ok__law_stand T) (hr.mono (by decide)) (by rfl) T.g__law_stand T.F__law_stand.kp T.b__law_stand .nil pass0 (pa_cons (pv 5) (pa_cons (pe_callB (r := rLenU K) call_lenU (by rfl) T.z_len (by decide +kernel) (pa_cons (pv 0) pa_nil)) pa_nil)))))) (fun _ _ _ _ _ => (pv 5))) (pe_lst pa_nil) (nomark _)) (pss_one (ps_ret (pe_lst (pa_cons pe_str (pa_cons (pv 2) pa_nil))))) pss_nil)))))
 (pss_cons (ps_if (PW.pt (pw_or (pt_not (pt_val (pe_callB (r := rIsi K) call_isi (by rfl) T.z_isinstance (by decide +kernel) (pa_cons (pv 1) (pa_cons (pe_bltn (v := .ty "tuple") (by rfl) T.z_tuple (by decide +kernel) rfl) pa_nil))))) (pw_or1 (pt_cmpR (r := rNeU K) (op_neU hr.units) (pe_lc (own := [("_law_one", 5)]) (g := (gName 5)) rfl sc__law_fault.nd (pi_seq (pv 1)) (blkOk_by (N := ["_law_steps", "_law_good", "_law_k", "_law_row", "_law_falls", "_law_one"]) (sc := defScope s__law_fault) (by decide +kernel)) (fun _ _ _ _ _ => (pg_name (i := 5) sc__law_fault.nd rfl (Or.inl rfl))) (fun _ _ _ _ _ => pts_one (pt_not (pt_val (pe_call (ok__law_stand T) (hr.mono (by decide)) (by rfl) T.g__law_stand T.F__law_stand.kp T.b__law_stand .nil pass0 (pa_cons (pv 5) (pa_cons (pe_callB (r := rLenU K) call_lenU (by rfl) T.z_len (by decide +kernel) (pa_cons (pv 0) pa_nil)) pa_nil)))))) (fun _ _ _ _ _ => (pv 5))) (pe_lst pa_nil) (nomark _))))) (pss_one (ps_ret (pe_lst (pa_cons pe_str pa_nil)))) pss_nil)
 (pss_cons (ps_setLc (i := 4) (own := [("_law_k", 2)]) (g := (gName 2)) rfl sc__law_fault.nd rfl rfl (sw_true rfl rfl rfl (by decide +kernel)) (pi_range2 rfl T.z_range (pa_cons pe_int (pa_cons (pe_callB (r := rLenU K) call_lenU (by rfl) T.z_len (by decide +kernel) (pa_cons (pv 1) pa_nil)) pa_nil))) (blkOk_by (N := ["_law_steps", "_law_good", "_law_k", "_law_row", "_law_falls", "_law_one"]) (sc := defScope s__law_fault) (by decide +kernel)) (fun _ _ _ _ _ => (pg_name (i := 2) sc__law_fault.nd rfl (Or.inl rfl))) (fun _ _ _ _ _ => pts_one (pt_cmpR op_ge (pe_ix (r := rIx K) ix_seq (pv 1) (pe_op op_sub (pv 2) pe_int) (fun _ _ => rfl)) (pe_ix (r := rIx K) ix_seq (pv 1) (pv 2) (fun _ _ => rfl)) (nomark _))) (fun _ _ _ _ _ => (pv 2)))
 (pss_one (ps_ret (pe_ifExp (pt_cmpR (r := rNeU K) (op_neU hr.units) (pv 4) (pe_lst pa_nil) (nomark _)) (pe_lst (pa_cons pe_str pa_nil)) pe_non))))))), ?_⟩
    refine st0 (σ' := [some _, some _, none, none, none, none]) rfl ?_
    walk_at "go"
    have fr : ∀ (p : Addr) (H3 : Hp), Same H H3 → H3 p = none → H p = none := fun p H3 s' hn => by
      cases e : H p with
      | none => rfl
      | some o =>
        rw [s' _ _ e] at hn
        cases hn
    cases S with
    | none =>
      obtain ⟨t, k, kt⟩ := hS
      refine isi k.ty kt ?_
      walk_at "go"
      refine al_l (sz1000 (by show 2 ≤ 1000; decide)) fun p H1 n1 e1 h1 _ => ?_
      exact q1 none rfl p H1 n1 e1 h1
    | some its =>
      obtain ⟨a, xs, rfl, hx, hlen, hz, hp⟩ := hS
      refine isi (tyx_t hx) kb_tt ?_
      walk_at "go"
      refine len_t hx ?_
      walk_at "go"
      refine i_d (fun h1 => ?_) (fun h1 => ?_)
      · walk_at "go"
        refine i_nd (fun h3 => ?_) (fun h3 => ?_)
        · walk_at "go"
          refine al_l (sz1000 (by show 2 ≤ 1000; decide)) fun p H1 n1 e1 h1' _ => ?_
          exact q1 none (fun z => by omega) p H1 n1 e1 h1'
        · walk_at "go"
          have n1 : 1 ≤ its.length := by omega
          have n8 : its.length ≤ 8 := by omega
          refine f_forR ?_
          walk_at "go"
          refine len_t hx ?_
          walk_at "go"
          refine ⟨_, rfl, by omega, by omega, for_range (fun i σ H2 => ∃ y2 y3, σ = [some (.ref a), some vg, y2, y3, none, none] ∧ Same H H2 ∧ ∀ (j : Nat) (J : Option (List V)), j < i → its[j]? = some J → rowBad its.length (ilen (its.head?.getD none)) J = false) ⟨none, none, rfl, Same.refl _, fun j _ h => absurd h (Nat.not_lt_zero j)⟩ (fun i σ H2 hi h => ?_) (fun σ H2 h => ?_)⟩
          · obtain ⟨y2, y3, rfl, sx, hold⟩ := h
            have hi' : i < xs.length := by omega
            have hI : ∃ I, its[i]? = some I := ⟨its[i]'(by omega), List.getElem?_eq_getElem (by omega)⟩
            obtain ⟨I, hI⟩ := hI
            have hx' : ∃ x, xs[i]? = some x := ⟨xs[i], List.getElem?_eq_getElem hi'⟩
            obtain ⟨x, hxi⟩ := hx'
            have hat := (hp i x I hxi hI).same sx
            have out : ∀ p H', H p = none → Same H H' → H' p = some (.lst (toldS (some i))) → rowBad its.length (ilen (its.head?.getD none)) I = true → Q (.ref p) H' := fun p H' np s' hp' hb =>
              q1 (some i) ⟨n1, n8, ⟨I, hI, hb⟩, hold⟩ p H' np s' hp'
            have ez : (0 : Int) + (i : Nat) = (i : Nat) := by omega
            rw [ez]
            walk_at "go"
            refine ix_t (sx.t hx) (atI_nat hxi) ?_
            walk_at "go"
            cases I with
            | none =>
              obtain ⟨t', k, kt⟩ := hat
              refine isi k.ty kt ?_
              walk_at "go"
              refine al_l (sz1000 (by show 2 ≤ 1000; decide)) fun p H3 n3 e3 h3' _ => ?_
              exact out p H3 (fr p _ sx n3) (sx.trans e3) h3' rfl
            | some ys =>
              obtain ⟨b, rfl, hb, hzb, hfl⟩ := hat
              have bad : leadsV ys (its.length : Int) = false → rowBad its.length (ilen (its.head?.getD none)) (some ys) = true := fun e => by
                show (!leadsV ys (its.length : Int) || _) = true
                rw [e]
                rfl
              refine isi (tyx_t hb) kb_tt ?_
              walk_at "go"
              refine len_t hb ?_
              walk_at "go"
              refine i_d (fun g1 => ?_) (fun g1 => ?_)
              · walk_at "go"
                refine i_nd (fun g3 => ?_) (fun g3 => ?_)
                · walk_at "go"
                  refine al_l (sz1000 (by show 2 ≤ 1000; decide)) fun p H3 n3 e3 h3' _ => ?_
                  exact out p H3 (fr p _ sx n3) (sx.trans e3) h3' (bad (by unfold leadsV; rw [decide_eq_false (p := ys.length ≤ 3) (by omega)]; simp))
                · walk_at "go"
                  have hx0 : ∃ x0, xs[0]? = some x0 := ⟨xs[0]'(by omega), List.getElem?_eq_getElem (by omega)⟩
                  obtain ⟨x0, hx0⟩ := hx0
                  have hJ : ∃ ys0, its[0]? = some (some ys0) := by
                    have hh : ∃ J, its[0]? = some J := ⟨its[0]'(by omega), List.getElem?_eq_getElem (by omega)⟩
                    obtain ⟨J, hJ⟩ := hh
                    cases J with
                    | some ys0 => exact ⟨ys0, hJ⟩
                    | none =>
                      cases i with
                      | zero =>
                        rw [hJ] at hI
                        cases hI
                      | succ i => exact absurd (hold 0 none (Nat.succ_pos i) hJ) (by intro z; cases z)
                  obtain ⟨ys0, hJ⟩ := hJ
                  obtain ⟨b0, rfl, hb0, _, _⟩ := (hp 0 x0 (some ys0) hx0 hJ).same sx
                  have hL : ilen (its.head?.getD none) = ys0.length := by
                    rw [List.head?_eq_getElem?, hJ]
                    rfl
                  refine len_t hb ?_
                  walk_at "go"
                  refine ix_t (sx.t hx) (atI_nat (j := 0) hx0) ?_
                  walk_at "go"
                  refine len_t hb0 ?_
                  walk_at "go"
                  refine i_nd (fun ne => ?_) (fun e => ?_)
                  · walk_at "go"
                    refine al_l (sz1000 (by show 2 ≤ 1000; decide)) fun p H3 n3 e3 h3' _ => ?_
                    refine out p H3 (fr p _ sx n3) (sx.trans e3) h3' ?_
                    show (!leadsV ys (its.length : Int) || !decide (ys.length = ilen (its.head?.getD none))) = true
                    rw [hL, decide_eq_false (fun z => ne (by omega))]
                    simp
                  · walk_at "go"
                    refine e_lcT ?_
                    walk_at "go"
                    refine comp_tf (K := K) (fun x => !below x (xs.length : Int)) (σw := [some (.ref a), some vg, some (.int (i : Nat)), some (.ref b), none, none]) rfl hb hzb ?_ ?_
                    · intro j x H3 R hxj s3 hR
                      walk_at "go"
                      refine ⟨rfl, ?_⟩
                      walk_at "go"
                      refine len_t ((sx.trans s3).t hx) ?_
                      walk_at "go"
                      obtain ⟨t', k⟩ := Fl.kd (hfl x (List.mem_of_getElem? hxj))
                      refine ⟨x, _, t', rfl, k K _, ?_⟩
                      walk_at "go"
                      refine hR _ _ (Same.refl _) fun _ Q2 hQ => ?_
                      walk_at "go"
                      exact hQ _ (Same.refl _)
                    · intro D H3 hD s3 hd
                      walk_at "go"
                      refine al_l (sz1000 (by show 0 ≤ 1000; decide)) fun p H4 n4 e4 h4 _ => ?_
                      refine ne_nil (e4 _ _ hd) (fun y hy => hfl y (List.mem_filter.mp hy).1) h4 ?_
                      walk_at "go"
                      refine i_nd (fun hne => ?_) (fun he => ?_)
                      · walk_at "go"
                        refine al_l (sz1000 (by show 2 ≤ 1000; decide)) fun p H5 n5 e5 h5' _ => ?_
                        refine out p H5 (fr p _ (sx.trans (s3.trans e4)) n5) (sx.trans (s3.trans (e4.trans e5))) h5' (bad ?_)
                        cases hlv : leadsV ys (its.length : Int) with
                        | false => rfl
                        | true =>
                          exfalso
                          apply hne
                          refine List.filter_eq_nil_iff.mpr fun y hy => ?_
                          unfold leadsV at hlv
                          rw [Bool.and_eq_true] at hlv
                          have := List.all_eq_true.mp hlv.2 y hy
                          rw [show (xs.length : Int) = (its.length : Nat) by omega, this]
                          exact Bool.false_ne_true
                      · walk_at "go"
                        refine ⟨_, _, rfl, sx.trans (s3.trans e4), fun j J hj hJ' => ?_⟩
                        by_cases hji : j < i
                        · exact hold j J hji hJ'
                        · have : j = i := by omega
                          subst this
                          rw [hI] at hJ'
                          cases hJ'
                          have hlv : leadsV ys (its.length : Int) = true := by
                            unfold leadsV
                            rw [decide_eq_true (p := 1 ≤ ys.length) (by omega), decide_eq_true (p := ys.length ≤ 3) (by omega)]
                            refine List.all_eq_true.mpr fun y hy => ?_
                            have := List.filter_eq_nil_iff.mp he y hy
                            rw [show (xs.length : Int) = (its.length : Nat) by omega] at this
                            cases hb' : below y (its.length : Int) with
                            | true => rfl
                            | false =>
                              rw [hb'] at this
                              exact absurd rfl this
                          show (!leadsV ys (its.length : Int) || !decide (ys.length = ilen (its.head?.getD none))) = false
                          rw [hL, hlv, decide_eq_true (by omega)]
                          rfl
              · walk_at "go"
                refine al_l (sz1000 (by show 2 ≤ 1000; decide)) fun p H3 n3 e3 h3' _ => ?_
                exact out p H3 (fr p _ sx n3) (sx.trans e3) h3' (bad (by unfold leadsV; rw [decide_eq_false (p := 1 ≤ ys.length) (by omega)]; rfl))
          · obtain ⟨y2, y3, rfl, sx, hold⟩ := h
            have ok : OkSt (some its) := ⟨n1, n8, fun I hI => by
              obtain ⟨j, hj, e⟩ := List.mem_iff_getElem.mp hI
              exact hold j I (by omega) (by rw [List.getElem?_eq_getElem hj, e])⟩
            walk_at "go"
            cases G with
            | none =>
              obtain ⟨t', k, kt⟩ := NoT.same hG sx
              refine isi k.ty kt ?_
              walk_at "go"
              refine al_l (sz1000 (by show 1 ≤ 1000; decide)) fun p H3 n3 e3 h3' _ => ?_
              exact q2 its rfl ok rfl p H3 (fr p _ sx n3) (sx.trans e3) h3'
            | some gs =>
              obtain ⟨g, rfl, hg, hzg, hfl⟩ := ItAt.same hG sx
              refine isi (tyx_t hg) kb_tt ?_
              walk_at "go"
              refine e_lcT ?_
              walk_at "go"
              refine comp_tf (K := K) (fun x => !below x (xs.length : Int)) (σw := [some (.ref a), some (.ref g), y2, y3, none, none]) rfl hg hzg ?_ ?_
              · intro j x H3 R hxj s3 hR
                walk_at "go"
                refine ⟨rfl, ?_⟩
                walk_at "go"
                refine len_t ((sx.trans s3).t hx) ?_
                walk_at "go"
                obtain ⟨t', k⟩ := Fl.kd (hfl x (List.mem_of_getElem? hxj))
                refine ⟨x, _, t', rfl, k K _, ?_⟩
                walk_at "go"
                refine hR _ _ (Same.refl _) fun _ Q2 hQ => ?_
                walk_at "go"
                exact hQ _ (Same.refl _)
              · intro D H3 hD s3 hd
                walk_at "go"
                refine al_l (sz1000 (by show 0 ≤ 1000; decide)) fun p H4 n4 e4 h4 _ => ?_
                refine ne_nil (e4 _ _ hd) (fun y hy => hfl y (List.mem_filter.mp hy).1) h4 ?_
                walk_at "go"
                have s4 := sx.trans (s3.trans e4)
                have hlz : (xs.length : Int) = (its.length : Nat) := by omega
                refine i_nd (fun hne => ?_) (fun he => ?_)
                · walk_at "go"
                  refine al_l (sz1000 (by show 1 ≤ 1000; decide)) fun p H5 n5 e5 h5' _ => ?_
                  refine q2 its rfl ok ?_ p H5 (fr p _ s4 n5) (s4.trans e5) h5'
                  show ((gs.all fun x => below x (its.length : Int)) && ascV gs) = false
                  cases hlv : (gs.all fun x => below x (its.length : Int)) with
                  | false => rfl
                  | true =>
                    exfalso
                    apply hne
                    refine List.filter_eq_nil_iff.mpr fun y hy => ?_
                    have := List.all_eq_true.mp hlv y hy
                    rw [hlz, this]
                    exact Bool.false_ne_true
                · walk_at "go"
                  have hall : ∀ y ∈ gs, below y (its.length : Int) = true := fun y hy => by
                    have := List.filter_eq_nil_iff.mp he y hy
                    rw [hlz] at this
                    cases hb' : below y (its.length : Int) with
                    | true => rfl
                    | false =>
                      rw [hb'] at this
                      exact absurd rfl this
                  refine e_lcR2 ?_
                  walk_at "go"
                  refine len_t ((s3.trans e4).t hg) ?_
                  walk_at "go"
                  refine ⟨1, _, rfl, ⟨by omega, by omega, by omega, by omega⟩, ?_⟩
                  have hn : ((gs.length : Int) - 1).toNat = gs.length - 1 := by omega
                  rw [hn]
                  refine comp_rf (lo := 1) (n := gs.length - 1) (falls gs) (σw := [some (.ref a), some (.ref g), none, y3, none, none]) rfl (by omega) ?_ ?_
                  · intro i H5 R hi s5 hR
                    have i1 : gs[i]? = some (gs[i]'(by omega)) := List.getElem?_eq_getElem (by omega)
                    have i2 : gs[i + 1]? = some (gs[i + 1]'(by omega)) := List.getElem?_eq_getElem (by omega)
                    obtain ⟨z1, hz1, _, _⟩ := below_is (hall _ (List.mem_of_getElem? i1))
                    obtain ⟨z2, hz2, _, _⟩ := below_is (hall _ (List.mem_of_getElem? i2))
                    rw [hz1] at i1
                    rw [hz2] at i2
                    have e1 : (1 : Int) + (i : Nat) - 1 = (i : Nat) := by omega
                    have e2 : (1 : Int) + (i : Nat) = ((i + 1 : Nat) : Int) := by omega
                    walk_at "go"
                    refine ⟨rfl, ?_⟩
                    walk_at "go"
                    rw [e1]
                    have sg := (s3.trans (e4.trans s5)).t hg
                    refine ix_t sg (atI_nat i1) ?_
                    walk_at "go"
                    refine ix_t sg (by rw [e2]; exact atI_nat i2) ?_
                    walk_at "go"
                    have ep : falls gs i = decide (z2 ≤ z1) := by
                      rw [falls_at i1 i2]
                      show (!decide (z1 < z2)) = _
                      by_cases hlt : z1 < z2
                      · rw [decide_eq_true hlt, decide_eq_false (by omega)]
                        rfl
                      · rw [decide_eq_false hlt, decide_eq_true (by omega)]
                        rfl
                    rw [← ep]
                    refine hR _ _ (Same.refl _) fun _ Q2 hQ => ?_
                    walk_at "go"
                    exact hQ _ (Same.refl _)
                  · intro D2 H5 hD2 s5 hd2
                    walk_at "go"
                    refine al_l (sz1000 (by show 0 ≤ 1000; decide)) fun p2 H6 n6 e6 h6 _ => ?_
                    refine ne_nil (e6 _ _ hd2) (fun y hy => ?_) h6 ?_
                    · obtain ⟨i, _, rfl⟩ := List.mem_map.mp hy
                      rfl
                    · have s6 := s4.trans (s5.trans e6)
                      have hg0 : ∀ b, ascV gs = b → goodV (its.length : Int) (some gs) = b := fun b hb => by
                        show ((gs.all fun x => below x (its.length : Int)) && ascV gs) = b
                        rw [List.all_eq_true.mpr hall, hb]
                        rfl
                      walk_at "go"
                      refine i_nd (fun hne => ?_) (fun he => ?_)
                      · walk_at "go"
                        refine al_l (sz1000 (by show 1 ≤ 1000; decide)) fun p H7 n7 e7 h7 _ => ?_
                        refine q2 its rfl ok (hg0 false ?_) p H7 (fr p _ s6 n7) (s6.trans e7) h7
                        cases hv : ascV gs with
                        | false => rfl
                        | true => exact absurd ((asc_nil gs).mpr hv) hne
                      · walk_at "go"
                        exact q3 its rfl ok (hg0 true ((asc_nil gs).mp he)) _ s6
      · walk_at "go"
        refine al_l (sz1000 (by show 2 ≤ 1000; decide)) fun p H1 n1 e1 h1' _ => ?_
        exact q1 none (fun z => by omega) p H1 n1 e1 h1'
/-! ### _law_tried -/
/-- a machine's object -/
def MacAt (C : Addr) (H : Hp) (x : V) (v vg : V) : Prop := ∃ a dx, x = .ref a ∧ H a = some (.ins C dx (mflds v vg))
def spTried (C : Addr) (K : PySem.W.Frag) : Sp := fun vs H Q _ => ∃ (v vg : V) (S : Option (List (Option (List V)))) (G : Option (List V)), vs = [v, vg] ∧ StAt K H v S ∧ ItAt K H vg G ∧
  (∀ r, BadAt S r → ∀ p H', H p = none → Same H H' → H' p = some (.lst (toldS r)) → Q (.ref p) H') ∧
  (∀ its, S = some its → OkSt S → goodV (its.length : Int) G = false → ∀ p H', H p = none → Same H H' → H' p = some (.lst toldG) → Q (.ref p) H') ∧
  (∀ its, S = some its → OkSt S → goodV (its.length : Int) G = true → ∀ x dx H', H x = none → Same H H' → H' x = some (.ins C dx (mflds v vg)) → Q (.ref x) H')
theorem e_v2' {a b : Option V} {v u : V} {H : Hp} {Q : VK} (q : Q v H) : tVar 2 ([a, b, some v, some u].set 3 none) H Q := ⟨v, rfl, q⟩
theorem e_mks {C : Addr} {sp : Sp} {E : L2.St → XK} {t : TA} {σ : L2.St} {H : Hp} {Q : VK} (q : t σ H (mkO C sp (E σ) Q)) : tMakeS C sp E t σ H Q := q
theorem none_of {H H' : Hp} {d : Addr} (s : Same H H') (h : H' d = none) : H d = none := by
  cases e : H d with
  | none => rfl
  | some o =>
    rw [s _ _ e] at h
    cases h
theorem mk_x {C CS CG : Addr} {K : PySem.W.Frag} {H : Hp} {v vg : V} {S : Option (List (Option (List V)))} {G : Option (List V)} {E : XK} {Q : VK} (hS : StAt K H v S) (hG : ItAt K H vg G) (hE : Refd CS CG S G H E)
    (q : ∀ its, S = some its → OkSt S → goodV (its.length : Int) G = true → ∀ x dx H', H x = none → Same H H' → H' x = some (.ins C dx (mflds v vg)) → Q (.ref x) H') : mkO C (spMachX C CS CG K) E Q [v, vg] H := by
  intro x dx nx ndx nex
  have e5 : Same H (upd (upd H dx (.own x)) x (.ins C dx [])) := fun b o e => by
    rw [upd_ne (ne_of_none e nx), upd_ne (ne_of_none e ndx)]
    exact e
  refine ⟨x, dx, v, vg, S, G, rfl, upd_same, hS.same e5, hG.same e5, ⟨fun r hr d H' hd s' hx => hE.1 r hr d H' (none_of e5 hd) (e5.trans s') hx, fun its e ok hg H' s' => hE.2 its e ok hg H' (e5.trans s')⟩, fun its e ok hg H' hp bt => ⟨rfl, q its e ok hg x dx H' nx (fun b o hb => ?_) hp⟩⟩
  refine bt _ _ (e5 _ _ hb) fun mm => ?_
  rw [List.mem_singleton.mp mm, nx] at hb
  cases hb
theorem ok__law_tried (T : TxtP P K mg) : FnOk P w K mg base (L2.CX P w) 7 T.a__law_tried T.fd__law_tried ["_law_steps", "_law_good"] (spTried T.C_Machine K) := by
  refine T.F__law_tried.okX sc__law_tried (fun vs H Q E h => ?_) (fun cdv A outer s H vs Q E hr h => ?_)
  · obtain ⟨v, vg, S, G, rfl, _⟩ := h
    rfl
  · obtain ⟨v, vg, S, G, rfl, hS, hG, q1, q2, q3⟩ := h
    refine ⟨_, (pss_cons (ps_set (i := 2) sc__law_tried.nd rfl (Or.inl rfl) pe_non)
 (pss_cons (ps_try_manyA rfl rfl sc__law_tried.nd takes0 (fun W pn xe tk po => (pss_one (ps_set (i := 2) sc__law_tried.nd rfl (Or.inl rfl) (pe_makeS T.m_Machine (ok_Machine_init T) (hr.mono (by decide)) (by rfl) T.g_Machine T.b_Machine_init (fun σ => passAt tk σ) (pa_cons (pv 0) (pa_cons (pv 1) pa_nil))))))
 (HdsA.cons (i := 3) ⟨by rfl, by decide, .inl T.g_BadSteps⟩ rfl rfl (fun a oe cls d pn hz hf => (pss_one (ps_set (i := 2) sc__law_tried.nd rfl (Or.inl rfl) (pe_ifExp (pt_val (pe_callB (call_isX hz hf) (by rfl) T.z_isinstance (by decide +kernel) (pa_cons (pv 3) (pa_cons (pe_glob (v := .ref T.C_MachineError) (by rfl) T.g_MachineError rfl) pa_nil)))) (pe_lst (pa_cons pe_str (pa_cons (pe_xf T.f_BadSteps T.n_BadSteps_index hz hf (pv 3)) pa_nil))) (pe_lst pa_nil)))))
 (HdsA.cons (i := 3) ⟨by rfl, by decide, .inl T.g_BadGood⟩ rfl rfl (fun a oe cls d pn hz hf => (pss_one (ps_set (i := 2) sc__law_tried.nd rfl (Or.inl rfl) (pe_ifExp (pt_val (pe_callB (call_isX hz hf) (by rfl) T.z_isinstance (by decide +kernel) (pa_cons (pv 3) (pa_cons (pe_glob (v := .ref T.C_MachineError) (by rfl) T.g_MachineError rfl) pa_nil)))) (pe_lst (pa_cons pe_str pa_nil)) (pe_lst pa_nil)))))
 HdsA.nil)))
 (pss_one (ps_ret (pv 2))))), ?_⟩
    refine st0 (σ' := [some _, some _, none, none]) rfl ?_
    walk_at "go"
    refine e_mks ?_
    walk_at "go"
    refine mk_x hS hG ⟨fun r hr d H1 hd s1 hx => ?_, fun its e ok hg H1 s1 => ?_⟩ fun its e ok hg x dx H1 nx s1 hx => ?_
    · refine ⟨true, exm_c T.r_BadSteps T.ic_BadSteps T.t_BadSteps T.sb_BadSteps_BadSteps, fun _ a ha => ?_, fun z => (nomatch z)⟩
      refine st0 (σ' := [some v, some vg, some .non, some (.ref a)]) rfl ?_
      walk_at "go"
      refine ⟨T.C_BadSteps, .ref T.C_MachineError, _, true, rfl, T.e_BadSteps, fun dd e => ⟨[("index", idxV r)], by rw [← Option.some.inj e]; exact hx⟩, rfl, fun u h => h, kit_c T.ic_MachineError T.t_MachineError T.sb_BadSteps_MachineError (fun _ => rfl), ?_⟩
      walk_at "go"
      refine ⟨_, rfl, rfl, rfl, d, _, idxV r, rfl, hx, rfl, ?_⟩
      walk_at "go"
      refine al_l (sz1000 (by show 2 ≤ 1000; decide)) fun p H2 n2 e2 h2 _ => ?_
      walk_at "go"
      refine e_v2' ?_
      exact q1 r hr p H2 (none_of s1 n2) (s1.trans e2) h2
    · refine ⟨false, exm_c T.r_BadSteps T.ic_BadSteps T.t_BadSteps T.sb_BadGood_BadSteps, fun z => (nomatch z), fun _ => ⟨true, exm_c T.r_BadGood T.ic_BadGood T.t_BadGood T.sb_BadGood_BadGood, fun _ a ha => ?_, fun z => (nomatch z)⟩⟩
      refine st0 (σ' := [some v, some vg, some .non, some (.ref a)]) rfl ?_
      walk_at "go"
      refine ⟨T.C_BadGood, .ref T.C_MachineError, _, true, rfl, T.e_BadGood, fun dd e => (by cases e), rfl, fun u h => h, kit_c T.ic_MachineError T.t_MachineError T.sb_BadGood_MachineError (fun _ => rfl), ?_⟩
      walk_at "go"
      refine al_l (sz1000 (by show 1 ≤ 1000; decide)) fun p H2 n2 e2 h2 _ => ?_
      walk_at "go"
      refine e_v2' ?_
      exact q2 its e ok hg p H2 (none_of s1 n2) (s1.trans e2) h2
    · walk_at "go"
      exact q3 its e ok hg x dx H1 nx s1 hx
/-! ### draws: a number state, the cells, an index -/
structure Dr (H : Hp) (h pc : Addr) : Prop where
  ex : ∃ (st ix : Int) (cs : List Int), H h = some (.lst [.int st, .ref pc, .int ix]) ∧ H pc = some (.lst (cs.map V.int)) ∧ 0 ≤ st ∧ st < 2147483647 ∧ 0 ≤ ix ∧ cs.length ≤ 63
theorem Dr.ne {H : Hp} {h pc : Addr} (d : Dr H h pc) : h ≠ pc := by
  obtain ⟨st, ix, cs, h1, h2, _⟩ := d.ex
  intro e
  rw [e] at h1
  rw [h1] at h2
  have e2 : [V.int st, .ref pc, .int ix] = cs.map V.int := HO.lst.inj (Option.some.inj h2)
  have e3 : V.ref pc ∈ cs.map V.int := by
    rw [← e2]
    exact List.mem_cons_of_mem _ List.mem_cons_self
  obtain ⟨z, _, e4⟩ := List.mem_map.mp e3
  cases e4
theorem Dr.same {H H' : Hp} {h pc : Addr} (d : Dr H h pc) (s : Same H H') : Dr H' h pc := by
  obtain ⟨st, ix, cs, h1, h2, r⟩ := d.ex
  exact ⟨st, ix, cs, s _ _ h1, s _ _ h2, r⟩
/-- a step of draws: only their own two lists have changed -/
structure DrS (h pc : Addr) (H H' : Hp) : Prop where
  bt : But [h, pc] H H'
  dr : Dr H' h pc
theorem two_mem {h pc b : Addr} (h1 : b ≠ h) (h2 : b ≠ pc) : b ∉ [h, pc] := by
  intro m
  rcases List.mem_cons.mp m with e | e
  · exact h1 e
  · exact h2 (List.mem_singleton.mp e)
theorem Dr.not {H : Hp} {h pc b : Addr} (d : Dr H h pc) (hb : H b = none) : b ∉ [h, pc] := by
  obtain ⟨st, ix, cs, h1, h2, r⟩ := d.ex
  refine two_mem (fun e => ?_) (fun e => ?_)
  · rw [e, h1] at hb
    cases hb
  · rw [e, h2] at hb
    cases hb
theorem DrS.refl {H : Hp} {h pc : Addr} (d : Dr H h pc) : DrS h pc H H := ⟨fun _ _ e _ => e, d⟩
theorem DrS.trans {H H1 H2 : Hp} {h pc : Addr} (a : DrS h pc H H1) (b : DrS h pc H1 H2) : DrS h pc H H2 := ⟨a.bt.trans b.bt, b.dr⟩
theorem DrS.of {H H1 : Hp} {h pc : Addr} (d : Dr H h pc) (s : Same H H1) : DrS h pc H H1 := ⟨s.but, d.same s⟩
theorem Dr.nl {H H' : Hp} {h pc : Addr} (d : Dr H h pc) (b : But [h, pc] H H') : NL H H' := by
  obtain ⟨st, ix, cs, h1, h2, r⟩ := d.ex
  refine b.nl fun c m => ?_
  rcases List.mem_cons.mp m with e | e
  · rw [e]
    exact ⟨_, h1⟩
  · rw [List.mem_singleton.mp e]
    exact ⟨_, h2⟩
theorem DrS.get {H H' : Hp} {h pc b : Addr} {o : HO} (s : DrS h pc H H') (hb : H b = some o) (n : b ∉ [h, pc]) : H' b = some o := s.bt b o hb n
def spMix (K : PySem.W.Frag) : Sp := fun vs H Q _ => ∃ (a : Addr) (ns : List Int) (seed : Int), vs = [.ref a, .int seed] ∧ SqL K H a (ns.map V.int) ∧ ns.length ≤ 63 ∧ 0 ≤ seed ∧ seed < 2147483647 ∧
  ∀ h pc H', Same H H' → H h = none → H pc = none → Dr H' h pc → Q (.ref h) H'
theorem ok__law_mix (T : TxtP P K mg) : FnOk P w K mg base CX0 1 T.a__law_mix T.fd__law_mix ["_law_script", "_law_seed"] (spMix K) := by
  refine T.F__law_mix.ok sc__law_mix (fun vs H Q E h => ?_) (fun cdv A outer s H vs Q E hr h => ?_)
  · obtain ⟨a, ns, seed, rfl, _⟩ := h
    rfl
  · obtain ⟨a, ns, seed, rfl, hS, hl, s0, s1, q⟩ := h
    refine ⟨_, (pss_cons (ps_set (i := 2) sc__law_mix.nd rfl (Or.inl rfl) (pv 1))
 (pss_cons (ps_for PassesOwn.never rfl (pi_seq (pv 0)) (pg_name (i := 3) sc__law_mix.nd rfl (Or.inl rfl))
 (pss_one (ps_set (i := 2) sc__law_mix.nd rfl (Or.inl rfl) (pe_op op_modN (pe_callTy call_intU (by rfl) T.z_int (by decide +kernel) (pa_cons (pe_op (r := rAddU K) op_addU (pe_op (r := rAddU K) op_addU (pe_op op_mulU (pv 2) pe_int) (pe_op op_modN (pe_callTy call_intU (by rfl) T.z_int (by decide +kernel) (pa_cons (pv 3) pa_nil)) pe_int)) pe_int) pa_nil)) pe_int))))
 (pss_one (ps_ret (pe_lst (pa_cons (pv 2) (pa_cons (pe_callTy (r := rListU K) call_listU (by rfl) T.z_list (by decide +kernel) (pa_cons (pv 0) pa_nil)) (pa_cons pe_int pa_nil)))))))), ?_⟩
    refine st0 (σ' := [some _, some _, none, none]) rfl ?_
    walk_at "go"
    refine f_forL ?_
    walk_at "go"
    refine ⟨a, rfl, ⟨_, hS⟩, for_list (K := K) (a := a) (xs := ns.map V.int) (fun i σ H2 => ∃ z y, σ = [some (.ref a), some (.int seed), some (.int z), y] ∧ H2 = H ∧ 0 ≤ z ∧ z < 2147483647) ⟨seed, none, rfl, rfl, s0, s1⟩ (fun i σ H2 _ h => ?_) (fun i x σ H2 hi h => ?_) (fun σ H2 h => ?_)⟩
    · obtain ⟨_, _, _, e, _⟩ := h
      rw [e]
      exact hS
    · obtain ⟨z, y, rfl, rfl, z0, z1⟩ := h
      rw [List.getElem?_map] at hi
      obtain ⟨c, hc, rfl⟩ := Option.map_eq_some_iff.mp hi
      walk_at "go"
      refine mul_i (cmul_l z0 (by omega)) ?_
      walk_at "go"
      refine mod_c (by decide) ?_
      walk_at "go"
      refine mod_c (by decide) ?_
      walk_at "go"
      exact ⟨_, _, rfl, rfl, Int.fmod_nonneg_of_pos _ (by decide), Int.fmod_lt_of_pos _ (by decide)⟩
    · obtain ⟨z, y, rfl, rfl, z0, z1⟩ := h
      walk_at "go"
      refine list_s (.inl hS) fun pc H1 n1 e1 h1 _ => ?_
      walk_at "go"
      refine al_l (sz1000 (by show 3 ≤ 1000; decide)) fun h H3 n3 e3 h3 _ => ?_
      walk_at "go"
      exact q h pc H3 (e1.trans e3) (e1.free n3) n1 ⟨z, 0, ns, h3, e3 _ _ h1, z0, z1, by decide, hl⟩
def spNext : Sp := fun vs H Q _ => ∃ (h pc : Addr) (cap : Int), vs = [.ref h, .int cap] ∧ Dr H h pc ∧ 0 < cap ∧ cap < 1073741824 ∧ ∀ r H', 0 ≤ r → r < cap → DrS h pc H H' → Q (.int r) H'
theorem ok__law_next (T : TxtP P K mg) : FnOk P w K mg base CX0 1 T.a__law_next T.fd__law_next ["_law_h", "_law_cap"] spNext := by
  refine T.F__law_next.ok sc__law_next (fun vs H Q E h => ?_) (fun cdv A outer s H vs Q E hr h => ?_)
  · obtain ⟨h, pc, cap, rfl, _⟩ := h
    rfl
  · obtain ⟨h, pc, cap, rfl, D, c0, c1, q⟩ := h
    obtain ⟨st, ix, cs, hh, hc, s0, s1, i0, hl⟩ := id D
    have hne := D.ne
    refine ⟨_, (pss_cons (ps_set (i := 2) sc__law_next.nd rfl (Or.inl rfl) (pe_ix (r := rIx K) ix_seq (pe_op (r := rAddU K) op_addU (pe_ix (r := rIx K) ix_seq (pv 0) pe_int (fun _ _ => rfl)) (pe_lst (pa_cons pe_int pa_nil))) (pe_op op_modN (pe_callTy call_intU (by rfl) T.z_int (by decide +kernel) (pa_cons (pe_ix (r := rIx K) ix_seq (pv 0) pe_int (fun _ _ => rfl)) pa_nil)) (pe_callB (call_maxU rfl) (by rfl) T.z_max (by decide +kernel) (pa_cons pe_int (pa_cons (pe_callB (r := rLenU K) call_lenU (by rfl) T.z_len (by decide +kernel) (pa_cons (pe_ix (r := rIx K) ix_seq (pv 0) pe_int (fun _ _ => rfl)) pa_nil)) pa_nil)))) (fun _ _ => rfl)))
 (pss_cons (ps_if (pt_cmpR op_ge (pv 2) (pe_op op_pow pe_int pe_int) (nomark _)) (pss_cons (ps_asg (pe_op op_fdivN (pv 2) (pv 1)) (pg_sub (pe_ix (r := rIx K) ix_seq (pv 0) pe_int (fun _ _ => rfl)) (pe_op op_modN (pe_callTy call_intU (by rfl) T.z_int (by decide +kernel) (pa_cons (pe_ix (r := rIx K) ix_seq (pv 0) pe_int (fun _ _ => rfl)) pa_nil)) (pe_callB (r := rLenU K) call_lenU (by rfl) T.z_len (by decide +kernel) (pa_cons (pe_ix (r := rIx K) ix_seq (pv 0) pe_int (fun _ _ => rfl)) pa_nil))) set_list))
 (pss_one (ps_ret (pe_op op_modN (pe_callTy call_intU (by rfl) T.z_int (by decide +kernel) (pa_cons (pv 2) pa_nil)) (pv 1))))) pss_nil)
 (pss_cons (ps_asg (pe_op op_modN (pe_callTy call_intU (by rfl) T.z_int (by decide +kernel) (pa_cons (pe_op (r := rAddU K) op_addU (pe_op (r := rAddU K) op_addU (pe_op op_mulU (pe_ix (r := rIx K) ix_seq (pv 0) pe_int (fun _ _ => rfl)) pe_int) (pe_op op_mulU (pv 2) pe_int)) pe_int) pa_nil)) pe_int) (pg_sub (pv 0) pe_int set_list))
 (pss_cons (ps_asg (pe_op (r := rAddU K) op_addU (pe_ix (r := rIx K) ix_seq (pv 0) pe_int (fun _ _ => rfl)) pe_int) (pg_sub (pv 0) pe_int set_list))
 (pss_one (ps_ret (pe_op op_modN (pe_callTy call_intU (by rfl) T.z_int (by decide +kernel) (pa_cons (pe_op op_fdivN (pe_ix (r := rIx K) ix_seq (pv 0) pe_int (fun _ _ => rfl)) pe_int) pa_nil)) (pv 1)))))))), ?_⟩
    refine st0 (σ' := [some _, some _, none]) rfl ?_
    walk_at "go"
    refine ix_l (sqL hh) (atI_nat (j := 1) rfl) ?_
    walk_at "go"
    refine al_l (sz1000 (by show 1 ≤ 1000; decide)) fun p1 H1 n1 e1 h1 _ => ?_
    walk_at "go"
    refine add_l (e1 _ _ hc) h1 (by
      rw [List.length_map]
      show cs.length + 1 ≤ 1000
      omega) fun p2 H2 n2 e2 h2 => ?_
    have e12 := e1.trans e2
    walk_at "go"
    refine ix_l (sqL (e12 _ _ hh)) (atI_nat (j := 2) rfl) ?_
    walk_at "go"
    refine ix_l (sqL (e12 _ _ hh)) (atI_nat (j := 1) rfl) ?_
    walk_at "go"
    refine len_l (sqL (e12 _ _ hc)) ?_
    walk_at "go"
    rw [List.length_map]
    generalize hm : (if (cs.length : Int) > 1 then (cs.length : Int) else 1) = m
    have hm1 : 0 < m := by
      rw [← hm]
      split <;> omega
    have hm2 : m = 1 ∨ m = (cs.length : Int) := by
      rw [← hm]
      split
      · exact .inr rfl
      · exact .inl rfl
    refine mod_c (by omega) ?_
    have k0 := Int.fmod_nonneg_of_pos ix hm1
    have k1 := Int.fmod_lt_of_pos ix hm1
    obtain ⟨cell, hcell, hbig⟩ : ∃ cell, (cs.map V.int ++ [V.int 0])[(ix.fmod m).toNat]? = some (.int cell) ∧ (0 < cell → (ix.fmod m).toNat < cs.length) := by
      by_cases hk : (ix.fmod m).toNat < cs.length
      · refine ⟨cs[(ix.fmod m).toNat], ?_, fun _ => hk⟩
        rw [List.getElem?_append_left (by rw [List.length_map]; exact hk), List.getElem?_map, List.getElem?_eq_getElem hk]
        rfl
      · refine ⟨0, ?_, fun z => absurd z (by decide)⟩
        have ek : (ix.fmod m).toNat = (cs.map V.int).length := by
          rw [List.length_map]
          rcases hm2 with e | e
          · rw [e] at k1 hk ⊢
            omega
          · omega
        rw [ek, List.getElem?_concat_length]
    refine ix_l (sqL h2) (at_int k0 hcell) ?_
    walk_at "go"
    refine r_ic ⟨by decide, by decide, by decide⟩ ?_
    walk_at "go"
    refine i_d (fun hb => ?_) (fun hb => ?_)
    · -- the digits of a large cell
      have hpos : 0 < cell := by
        have : (10 : Int) ^ (18 : Int).toNat ≤ cell := hb
        have e : (10 : Int) ^ (18 : Int).toNat = 1000000000000000000 := by decide
        rw [e] at this
        omega
      have hlt := hbig hpos
      have hcl : 0 < (cs.length : Int) := by omega
      walk_at "go"
      refine fdv_c ⟨by omega, by omega⟩ ?_
      walk_at "go"
      refine ix_l (sqL (e12 _ _ hh)) (atI_nat (j := 1) rfl) ?_
      walk_at "go"
      refine ix_l (sqL (e12 _ _ hh)) (atI_nat (j := 2) rfl) ?_
      walk_at "go"
      refine ix_l (sqL (e12 _ _ hh)) (atI_nat (j := 1) rfl) ?_
      walk_at "go"
      refine len_l (sqL (e12 _ _ hc)) ?_
      walk_at "go"
      rw [List.length_map]
      refine mod_c (by omega) ?_
      refine set_l (e12 _ _ hc) (Int.fmod_nonneg_of_pos _ hcl) (by
        rw [List.length_map]
        exact Int.fmod_lt_of_pos _ hcl) ?_
      walk_at "go"
      refine mod_c (by omega) ?_
      walk_at "go"
      refine q _ _ (Int.fmod_nonneg_of_pos _ c0) (Int.fmod_lt_of_pos _ c0) ⟨fun b o hb2 nb => ?_, ⟨st, ix, cs.set (ix.fmod (cs.length : Int)).toNat (cell.fdiv cap), ?_, ?_, s0, s1, i0, by rw [List.length_set]; exact hl⟩⟩
      · rw [upd_ne (fun e => nb (by rw [e]; exact List.mem_cons_of_mem _ List.mem_cons_self))]
        exact e12 _ _ hb2
      · rw [upd_ne hne]
        exact e12 _ _ hh
      · rw [upd_same, List.map_set]
    · walk_at "go"
      refine ix_l (sqL (e12 _ _ hh)) (atI_nat (j := 0) rfl) ?_
      walk_at "go"
      refine mul_i (cmul_l s0 (by omega)) ?_
      walk_at "go"
      refine mul_i (cmul_r (by decide) (by decide)) ?_
      walk_at "go"
      refine mod_c (by decide) ?_
      walk_at "go"
      generalize hst : (st * 48271 + cell * 69621 + 11).fmod 2147483647 = st'
      have t0 : 0 ≤ st' := by
        rw [← hst]
        exact Int.fmod_nonneg_of_pos _ (by decide)
      have t1 : st' < 2147483647 := by
        rw [← hst]
        exact Int.fmod_lt_of_pos _ (by decide)
      refine set_l (e12 _ _ hh) (by decide) (by show (0 : Int) < 3; decide) ?_
      walk_at "go"
      have hh3 : (upd H2 h (.lst ([V.int st, .ref pc, .int ix].set (0 : Int).toNat (.int st')))) h = some (.lst [.int st', .ref pc, .int ix]) := upd_same
      refine ix_l (sqL hh3) (atI_nat (j := 2) rfl) ?_
      walk_at "go"
      refine set_l hh3 (by decide) (by show (2 : Int) < 3; decide) ?_
      walk_at "go"
      refine ix_l (sqL upd_same) (atI_nat (j := 0) rfl) ?_
      walk_at "go"
      refine fdv_c ⟨by decide, by decide⟩ ?_
      walk_at "go"
      refine mod_c (by omega) ?_
      walk_at "go"
      refine q _ _ (Int.fmod_nonneg_of_pos _ c0) (Int.fmod_lt_of_pos _ c0) ⟨fun b o hb2 nb => ?_, ⟨st', ix + 1, cs, upd_same, ?_, t0, t1, by omega, hl⟩⟩
      · have nh : b ≠ h := fun e => nb (by rw [e]; exact List.mem_cons_self)
        rw [upd_ne nh, upd_ne nh]
        exact e12 _ _ hb2
      · rw [upd_ne (Ne.symm hne), upd_ne (Ne.symm hne)]
        exact e12 _ _ hc
/-- one of some things, drawn -/
def spPick (K : PySem.W.Frag) : Sp := fun vs H Q _ => ∃ (h pc t : Addr) (xs : List V), vs = [.ref h, .ref t] ∧ Dr H h pc ∧ 0 < xs.length ∧ xs.length ≤ 1000 ∧ (SqT K H t xs ∨ (H t = some (.lst xs) ∧ t ∉ [h, pc])) ∧
  ∀ (i : Nat) x H', xs[i]? = some x → DrS h pc H H' → Q x H'
theorem ok__law_pick (T : TxtP P K mg) : FnOk P w K mg base CX0 2 T.a__law_pick T.fd__law_pick ["_law_h", "_law_things"] (spPick K) := by
  refine T.F__law_pick.ok sc__law_pick (fun vs H Q E h => ?_) (fun cdv A outer s H vs Q E hr h => ?_)
  · obtain ⟨h, pc, t, xs, rfl, _⟩ := h
    rfl
  · obtain ⟨h, pc, t, xs, rfl, D, x0, x1, ht, q⟩ := h
    refine ⟨_, (pss_one (ps_ret (pe_ix (r := rIx K) ix_seq (pv 1) (pe_call (ok__law_next T) (hr.mono (by decide)) (by rfl) T.g__law_next T.F__law_next.kp T.b__law_next .nil pass0 (pa_cons (pv 0) (pa_cons (pe_callB (r := rLenU K) call_lenU (by rfl) T.z_len (by decide +kernel) (pa_cons (pv 1) pa_nil)) pa_nil))) (fun _ _ => rfl)))), ?_⟩
    refine st0 (σ' := [some _, some _]) rfl ?_
    walk_at "go"
    have fin : ∀ (r : Int) (H' : Hp), 0 ≤ r → r < (xs.length : Int) → DrS h pc H H' → rIx K (.ref t) (.int r) H' Q := by
      intro r H' r0 r1 s
      have hx : xs[r.toNat]? = some (xs[r.toNat]'(by omega)) := List.getElem?_eq_getElem (by omega)
      rcases ht with ht | ⟨ht, n⟩
      · exact ix_t ((D.nl s.bt).t ht) (at_int r0 hx) (q _ _ _ hx s)
      · exact ix_l (sqL (s.get ht n)) (at_int r0 hx) (q _ _ _ hx s)
    rcases ht with ht | ⟨ht, n⟩
    · refine len_t ht ?_
      walk_at "go"
      exact ⟨h, pc, _, rfl, D, by omega, by omega, fun r H' r0 r1 s => fin r H' r0 r1 s⟩
    · refine len_l (sqL ht) ?_
      walk_at "go"
      exact ⟨h, pc, _, rfl, D, by omega, by omega, fun r H' r0 r1 s => fin r H' r0 r1 s⟩
/-! comprehensions over a range whose elements draw -/
theorem comp_dr {h pc : Addr} {n : Nat} {g : TG} {te : TE} {vs : List Nat} {σ σw : St} {H : Hp} {QD : Addr → Hp → Prop} (Pe : V → Prop) (hw : wipe σ vs = σw) (hn : n ≤ 1000) (D0 : Dr H h pc)
    (he : ∀ (i : Nat) (H2 : Hp) (R : VK), i < n → DrS h pc H H2 → (∀ y H4, Pe y → DrS h pc H2 H4 → R y H4) → g (.int (0 + (i : Nat))) σw H2 fun σ2 H4 => wipe σ2 vs = σw ∧ te σ2 H4 R)
    (q : ∀ D H' ys, H D = none → DrS h pc H H' → H' D = some (.lst ys) → ys.length = n → (∀ y ∈ ys, Pe y) → QD D H') :
    ∀ D, H D = none → ∃ W : Nat → Nat → Hp → Prop, (∃ m, W 0 m (upd H D (.lst []))) ∧ ∀ i m H, W i m H →
      ((Itr 0 n).stop i H ∧ QD D H) ∨ ((Itr 0 n).go i H ∧ ∃ Nx : Hp → Prop, (∀ H', Nx H' → ∃ m', m' < m ∧ W (i + 1) m' H') ∧ ∀ x H', (Itr 0 n).yld i H x H' → g x (wipe σ vs) H' fun σ2 H2 => wipe σ2 vs = wipe σ vs ∧ tYes σ2 H2 fun b H3 =>
        if b = true then te σ2 H3 fun y H4 => ∃ acc, H4 D = some (.lst acc) ∧ acc.length < sizeLine ∧ Nx (upd H4 D (.lst (acc ++ [y]))) else Nx H3) := by
  intro D hD
  have nD := D0.not hD
  refine lc_range (fun i H' => ∃ acc, DrS h pc H H' ∧ H' D = some (.lst acc) ∧ acc.length = i ∧ ∀ y ∈ acc, Pe y) ⟨[], DrS.of D0 (same_upd hD), upd_same, rfl, fun y hy => absurd hy List.not_mem_nil⟩ (fun i H2 hi h2 => ?_) fun H' h2 => ?_
  · rw [hw]
    obtain ⟨acc, s2, hd, hl, hP⟩ := h2
    refine he i H2 _ hi s2 fun y H4 hy s4 => ?_
    have hd4 := s4.get hd nD
    refine ⟨acc, hd4, small1000 (by omega), acc ++ [y], ?_, upd_same, by rw [List.length_append, hl]; rfl, fun z hz => ?_⟩
    · have s24 := s2.trans s4
      refine ⟨fun b o hb nb => ?_, ?_⟩
      · rw [upd_ne (ne_of_none hb hD)]
        exact s24.bt b o hb nb
      · obtain ⟨st, ix, cs, h1, h3, r⟩ := s24.dr.ex
        have n1 : h ≠ D := fun e => nD (by rw [e]; exact List.mem_cons_self)
        have n2 : pc ≠ D := fun e => nD (by rw [e]; exact List.mem_cons_of_mem _ List.mem_cons_self)
        exact ⟨st, ix, cs, by rw [upd_ne n1]; exact h1, by rw [upd_ne n2]; exact h3, r⟩
    · rcases List.mem_append.mp hz with m | m
      · exact hP z m
      · rw [List.mem_singleton.mp m]
        exact hy
  · obtain ⟨acc, s2, hd, hl, hP⟩ := h2
    exact q D H' acc hD s2 hd hl hP
theorem ints_of : ∀ {ys : List V} {p : Int → Prop}, (∀ y ∈ ys, ∃ z, y = V.int z ∧ p z) → ∃ ns : List Int, ys = ns.map V.int ∧ ∀ z ∈ ns, p z
  | [], _, _ => ⟨[], rfl, fun _ hz => absurd hz List.not_mem_nil⟩
  | y :: r, p, h => by
    obtain ⟨z, rfl, hz⟩ := h y List.mem_cons_self
    obtain ⟨ns, e, hn⟩ := ints_of (ys := r) (p := p) fun x hx => h x (List.mem_cons_of_mem _ hx)
    refine ⟨z :: ns, by rw [e]; rfl, fun u hu => ?_⟩
    rcases List.mem_cons.mp hu with m | m
    · rw [m]
      exact hz
    · exact hn u m
theorem DrS.upd {H H2 : Hp} {h pc D : Addr} {o : HO} (s : DrS h pc H H2) (hD : H D = none) (n : D ∉ [h, pc]) : DrS h pc H (upd H2 D o) := by
  refine ⟨fun b ob hb nb => ?_, ?_⟩
  · rw [upd_ne (ne_of_none hb hD)]
    exact s.bt b ob hb nb
  · obtain ⟨st, ix, cs, h1, h3, r⟩ := s.dr.ex
    have n1 : h ≠ D := fun e => n (by rw [e]; exact List.mem_cons_self)
    have n2 : pc ≠ D := fun e => n (by rw [e]; exact List.mem_cons_of_mem _ List.mem_cons_self)
    exact ⟨st, ix, cs, by rw [upd_ne n1]; exact h1, by rw [upd_ne n2]; exact h3, r⟩
/-- a machine's parts, drawn -/
def spParts (K : PySem.W.Frag) : Sp := fun vs H Q _ => ∃ (h pc : Addr) (L : Nat), vs = [.ref h, .int L] ∧ Dr H h pc ∧ 1 ≤ L ∧ L ≤ 3 ∧
  ∀ p v vg rows gs H', DrS h pc H H' → SqT K H' p [v, vg] → RowsT K H' v rows → IntsT K H' vg gs → OkM L rows gs → Q (.ref p) H'
theorem two_ints {a b : Int} {i : Nat} {x : V} (h : [V.int a, V.int b][i]? = some x) : x = .int a ∨ x = .int b := by
  rcases List.mem_cons.mp (List.mem_of_getElem? h) with e | e
  · exact .inl e
  · exact .inr (List.mem_singleton.mp e)
/-- between two turns of the drawn parts -/
structure PartsAt (K : PySem.W.Frag) (H : Hp) (h pc ls lg : Addr) (L : Nat) (many : Int) (i : Nat) (H2 : Hp) : Prop where
  ex : ∃ (xs : List V) (rows : List (List Int)) (gs : List Int), DrS h pc H H2 ∧ H2 ls = some (.lst xs) ∧ H2 lg = some (.lst (gs.map V.int)) ∧ xs.length = i ∧ rows.length = i ∧
    (∀ (j : Nat) (x : V) (r : List Int), xs[j]? = some x → rows[j]? = some r → IntsT K H2 x r) ∧ (∀ r ∈ rows, r.length = L ∧ ∀ z ∈ r, 0 ≤ z ∧ z < many) ∧ (∀ z ∈ gs, 0 ≤ z ∧ z < (i : Int)) ∧ gs.Pairwise (· < ·) ∧ gs.length ≤ i
theorem asc_snoc {gs : List Int} {i : Int} (h : gs.Pairwise (· < ·)) (hz : ∀ z ∈ gs, 0 ≤ z ∧ z < i) : (gs ++ [i]).Pairwise (· < ·) := by
  rw [List.pairwise_append]
  refine ⟨h, List.pairwise_singleton _ _, fun a ha b hb => ?_⟩
  rw [List.mem_singleton.mp hb]
  exact (hz a ha).2
theorem at_snoc {α : Type} {l : List α} {x y : α} {j : Nat} (h : (l ++ [x])[j]? = some y) : (j < l.length ∧ l[j]? = some y) ∨ (j = l.length ∧ y = x) := by
  by_cases hj : j < l.length
  · rw [List.getElem?_append_left hj] at h
    exact .inl ⟨hj, h⟩
  · rw [List.getElem?_append_right (by omega)] at h
    have hk : j - l.length = 0 := by
      have := (List.getElem?_eq_some_iff.mp h).1
      simp only [List.length_cons, List.length_nil] at this
      omega
    rw [hk] at h
    exact .inr ⟨by omega, (Option.some.inj h).symm⟩
theorem ok__law_parts (T : TxtP P K mg) : FnOk P w K mg base CX0 3 T.a__law_parts T.fd__law_parts ["_law_h", "_law_letters"] (spParts K) := by
  refine T.F__law_parts.ok sc__law_parts (fun vs H Q E h => ?_) (fun cdv A outer s H vs Q E hr h => ?_)
  · obtain ⟨h, pc, L, rfl, _⟩ := h
    rfl
  · obtain ⟨h, pc, L, rfl, D0, l1, l3, q⟩ := h
    refine ⟨_, (pss_cons (ps_asg (pe_tup (pa_cons (pe_op (r := rAddU K) op_addU pe_int (pe_call (ok__law_next T) (hr.mono (by decide)) (by rfl) T.g__law_next T.F__law_next.kp T.b__law_next .nil pass0 (pa_cons (pv 0) (pa_cons (pe_call (ok__law_pick T) (hr.mono (by decide)) (by rfl) T.g__law_pick T.F__law_pick.kp T.b__law_pick .nil pass0 (pa_cons (pv 0) (pa_cons (pe_lst (pa_cons pe_int (pa_cons pe_int pa_nil))) pa_nil))) pa_nil)))) (pa_cons (pe_call (ok__law_next T) (hr.mono (by decide)) (by rfl) T.g__law_next T.F__law_next.kp T.b__law_next .nil pass0 (pa_cons (pv 0) (pa_cons pe_int pa_nil))) pa_nil))) (pg_tup rfl (pgs_cons (pg_name (i := 2) sc__law_parts.nd rfl (Or.inr rfl)) (pgs_cons (pg_name (i := 3) sc__law_parts.nd rfl (Or.inl rfl)) pgs_nil))))
 (pss_cons (ps_par (i := 4) (j := 5) (by rfl) sc__law_parts.nd rfl rfl (by decide) rfl rfl (pa_cons (pe_lst pa_nil) (pa_cons (pe_lst pa_nil) pa_nil)) (by rfl))
 (pss_cons (ps_for PassesOwn.never rfl (pi_range1 rfl T.z_range (pa_cons (pv 2) pa_nil)) (pg_name (i := 6) sc__law_parts.nd rfl (Or.inl rfl))
 (pss_cons (ps_set (i := 7) sc__law_parts.nd rfl (Or.inr rfl) (pe_ifExp (PW.pt (pw_and (pt_cmpR op_lt (pv 6) (pv 3) (nomark _)) (pw_and1 (pt_cmpR op_lt (pe_op (r := rAddU K) op_addU (pv 6) pe_int) (pv 2) (nomark _))))) (pe_op (r := rAddU K) op_addU (pv 6) pe_int) (pe_call (ok__law_pick T) (hr.mono (by decide)) (by rfl) T.g__law_pick T.F__law_pick.kp T.b__law_pick .nil pass0 (pa_cons (pv 0) (pa_cons (pe_lst (pa_cons pe_int (pa_cons (pe_callB (call_minU rfl) (by rfl) T.z_min (by decide +kernel) (pa_cons (pv 3) (pa_cons (pe_op op_sub (pv 2) pe_int) pa_nil))) pa_nil))) pa_nil)))))
 (pss_cons (ps_expr (pe_bm PySem.F.plainAttrs_list PySem.F.slot_list_append PySem.F.type_list_append mt_append (pv 4) (pa_cons (pe_callTy (r := rTupU K) call_tupU (by rfl) T.z_tuple (by decide +kernel) (pa_cons (pe_lc (own := [("_law_letter", 8)]) (g := (gName 8)) (tt := tYes) rfl sc__law_parts.nd (pi_range1 rfl T.z_range (pa_cons (pv 1) pa_nil)) (blkOk_by (N := ["_law_h", "_law_letters", "_law_many", "_law_early", "_law_steps", "_law_good", "_law_stand_here", "_law_low", "_law_letter"]) (sc := defScope s__law_parts) (by decide +kernel)) (fun _ _ _ _ _ => (pg_name (i := 8) sc__law_parts.nd rfl (Or.inl rfl))) (fun _ _ _ _ _ => pts_nil) (fun _ _ _ _ _ => (pe_op (r := rAddU K) op_addU (pv 7) (pe_call (ok__law_next T) (hr.mono (by decide)) (by rfl) T.g__law_next T.F__law_next.kp T.b__law_next .nil pass0 (pa_cons (pv 0) (pa_cons (pe_op op_sub (pv 2) (pv 7)) pa_nil)))))) pa_nil)) pa_nil)))
 (pss_one (ps_if (pt_cmpR (r := rEqU K) (op_eqU hr.units) (pe_call (ok__law_next T) (hr.mono (by decide)) (by rfl) T.g__law_next T.F__law_next.kp T.b__law_next .nil pass0 (pa_cons (pv 0) (pa_cons pe_int pa_nil))) pe_int (nomark _)) (pss_one (ps_expr (pe_bm PySem.F.plainAttrs_list PySem.F.slot_list_append PySem.F.type_list_append mt_append (pv 5) (pa_cons (pv 6) pa_nil)))) pss_nil)))))
 (pss_one (ps_ret (pe_tup (pa_cons (pe_callTy (r := rTupU K) call_tupU (by rfl) T.z_tuple (by decide +kernel) (pa_cons (pv 4) pa_nil)) (pa_cons (pe_callTy (r := rTupU K) call_tupU (by rfl) T.z_tuple (by decide +kernel) (pa_cons (pv 5) pa_nil)) pa_nil)))))))), ?_⟩
    refine st0 (σ' := [some _, some _, none, none, none, none, none, none, none]) rfl ?_
    walk_at "go"
    refine al_l (sz1000 (by show 2 ≤ 1000; decide)) fun p1 H1 n1 e1 h1 _ => ?_
    walk_at "go"
    refine ⟨h, pc, p1, _, rfl, D0.same e1, by show 0 < 2; decide, by show 2 ≤ 1000; decide, .inr ⟨h1, D0.not n1⟩, fun i x H2 hx s2 => ?_⟩
    have d2 : DrS h pc H H2 := (DrS.of D0 e1).trans s2
    obtain ⟨c, rfl, c1, c8⟩ : ∃ c, x = V.int c ∧ 3 ≤ c ∧ c ≤ 8 := by
      rcases two_ints hx with e | e
      · exact ⟨3, e, by decide, by decide⟩
      · exact ⟨8, e, by decide, by decide⟩
    walk_at "go"
    refine ⟨h, pc, c, rfl, s2.dr, by omega, by omega, fun m H3 m0 m1 s3 => ?_⟩
    walk_at "go"
    refine ⟨h, pc, 5, rfl, s3.dr, by decide, by decide, fun early H4 y0 y1 s4 => ?_⟩
    walk_at "go"
    refine al_t (sz1000 (by show 2 ≤ 1000; decide)) fun p5 H5 n5 e5 h5 _ => ?_
    have d5 : DrS h pc H H5 := ((d2.trans s3).trans s4).trans (DrS.of s4.dr e5)
    generalize hm : (1 : Int) + m = many at h5 ⊢
    refine g_pair (sqT h5) (σ' := [some (.ref h), some (.int L), some (.int many), some (.int early), none, none, none, none, none]) rfl ?_
    have a1 : 1 ≤ many := by omega
    have a8 : many ≤ 8 := by omega
    clear hm hx
    walk_at "go"
    refine al_l (sz1000 (by show 0 ≤ 1000; decide)) fun ls H6 n6 e6 h6 _ => ?_
    walk_at "go"
    refine al_l (sz1000 (by show 0 ≤ 1000; decide)) fun lg H7 n7 e7 h7 _ => ?_
    have d7 : DrS h pc H H7 := d5.trans (DrS.of d5.dr (e6.trans e7))
    have back : ∀ b, H5 b = none → H b = none ∧ b ∉ [h, pc] := by
      intro b hb
      have nb := d5.dr.not hb
      cases hq : H b with
      | none => exact ⟨rfl, nb⟩
      | some o =>
        rw [d5.bt b o hq nb] at hb
        cases hb
    obtain ⟨hls, nls⟩ := back ls n6
    obtain ⟨hlg, nlg⟩ := back lg (e6.free n7)
    have nlsg : ls ≠ lg := fun e => by
      rw [e] at h6
      rw [h6] at n7
      cases n7
    walk_at "go"
    refine ⟨_, _, rfl, ?_⟩
    refine nxs (σ' := [some (.ref h), some (.int L), some (.int many), some (.int early), some (.ref ls), some (.ref lg), none, none, none]) rfl ?_
    walk_at "go"
    refine f_forR ?_
    walk_at "go"
    refine ⟨many, rfl, by omega, by omega, for_range (fun i σ H2 => ∃ y6 y7, σ = [some (.ref h), some (.int L), some (.int many), some (.int early), some (.ref ls), some (.ref lg), y6, y7, none] ∧ PartsAt K H h pc ls lg L many i H2)
      ⟨none, none, rfl, ⟨[], [], [], d7, e7 _ _ h6, h7, rfl, rfl, fun j x r hx => absurd hx (by simp), fun r hr => absurd hr List.not_mem_nil, fun z hz => absurd hz List.not_mem_nil, List.Pairwise.nil, Nat.le_refl _⟩⟩ (fun i σ H2 hi hp => ?_) (fun σ H2 hp => ?_)⟩
    · obtain ⟨y6, y7, rfl, ⟨xs, rows, gs, d, gls, glg, lx, lr, hrow, hok, hgs, hasc, hgl⟩⟩ := hp
      have hi2 : (i : Int) < many := by omega
      refine g_n6 ?_
      refine s_seq ?_
      refine s_asg ?_
      refine e_cut (fun v H3 => ∃ low, v = V.int low ∧ 0 ≤ low ∧ low < many ∧ DrS h pc H2 H3) (fun R hR => ?_) ?_
      · -- the lowest goal
        have other : ∀ σ', mkL (fun x H1 => tNil σ' H1 fun xs H2 => spPick K (V.ref h :: x :: xs) H2 R E0) [V.int 0, V.int (if many - 1 < early then many - 1 else early)] H2 := by
          intro σ'
          refine al_l (sz1000 (by show 2 ≤ 1000; decide)) fun p3 H4 n3 e3 h3 _ => ?_
          walk_at "go"
          refine ⟨h, pc, p3, _, rfl, d.dr.same e3, by show 0 < 2; decide, by show 2 ≤ 1000; decide, .inr ⟨h3, d.dr.not n3⟩, fun k x H5 hx s5 => ?_⟩
          have d5 : DrS h pc H2 H5 := (DrS.of d.dr e3).trans s5
          rcases two_ints hx with e | e
          · exact hR _ _ ⟨0, e, by decide, by omega, d5⟩
          · refine hR _ _ ⟨_, e, ?_, ?_, d5⟩
            · split <;> omega
            · split <;> omega
        walk_at "go"
        refine i_d (fun b1 => ?_) (fun b1 => ?_)
        · walk_at "go"
          refine i_d (fun b2 => ?_) (fun b2 => ?_)
          · walk_at "go"
            exact hR _ _ ⟨_, rfl, by omega, b2, DrS.refl d.dr⟩
          · walk_at "go"
            exact other _
        · walk_at "go"
          exact other _
      · rintro v H3 ⟨low, rfl, lo0, lo1, s3⟩
        have d3 := d.trans s3
        have gls3 := s3.get gls nls
        have glg3 := s3.get glg nlg
        walk_at "go"
        refine ⟨ty_l rfl gls3, ?_⟩
        walk_at "go"
        refine e_lcR ?_
        walk_at "go"
        refine ⟨L, rfl, by omega, by omega, ?_⟩
        rw [show ((L : Int)).toNat = L from Int.toNat_natCast L]
        refine comp_dr (h := h) (pc := pc) (n := L) (fun y => ∃ z, y = V.int z ∧ 0 ≤ z ∧ z < many) (σw := [some (.ref h), some (.int L), some (.int many), some (.int early), some (.ref ls), some (.ref lg), some (.int (0 + (i : Nat))), some (.int low), none]) rfl (by omega) s3.dr ?_ ?_
        · intro k H4 R hk s4 hR
          walk_at "go"
          refine ⟨rfl, ?_⟩
          walk_at "go"
          refine ⟨h, pc, _, rfl, s4.dr, by omega, by omega, fun z H5 z0 z1 s5 => ?_⟩
          walk_at "go"
          exact hR _ _ ⟨_, rfl, by omega, by omega⟩ s5
        · intro D4 H4 ys n4 s4 h4 hly hys
          obtain ⟨ns, rfl, hns⟩ := ints_of hys
          rw [List.length_map] at hly
          walk_at "go"
          refine tup_l (sqL h4) fun p5 H5 n5 e5 h5 _ => ?_
          have s5 : DrS h pc H2 H5 := (s3.trans s4).trans (DrS.of s4.dr e5)
          have gls5 := s5.get gls nls
          have glg5 := s5.get glg nlg
          walk_at "go"
          refine app_l gls5 (by omega) ?_
          walk_at "go"
          have nl5 : NL H2 H5 := d.dr.nl s5.bt
          generalize hH6 : upd H5 ls (.lst (xs ++ [V.ref p5])) = H6
          have nl6 : NL H5 H6 := by
            rw [← hH6]
            exact upd_lst_nl gls5
          have g6 : H6 ls = some (.lst (xs ++ [V.ref p5])) := by
            rw [← hH6]
            exact upd_same
          have g6g : H6 lg = some (.lst (gs.map V.int)) := by
            rw [← hH6, upd_ne (Ne.symm nlsg)]
            exact glg5
          have d6 : DrS h pc H H6 := by
            rw [← hH6]
            exact (d.trans s5).upd hls nls
          clear hH6
          refine ⟨h, pc, 2, rfl, d6.dr, by decide, by decide, fun z H7 z0 z1 s7 => ?_⟩
          have d7 := d6.trans s7
          have g7 := s7.get g6 nls
          have g7g := s7.get g6g nlg
          have nl7 : NL H2 H7 := (nl5.trans nl6).trans (d6.dr.nl s7.bt)
          have hp7 : SqT K H7 p5 (ns.map V.int) := ((nl6.trans (d6.dr.nl s7.bt)).t (sqT h5))
          have hrow' : ∀ (j : Nat) (x : V) (r : List Int), (xs ++ [V.ref p5])[j]? = some x → (rows ++ [ns])[j]? = some r → IntsT K H7 x r := by
            intro j x r hx hr
            rcases at_snoc hx with ⟨_, hx⟩ | ⟨hj, rfl⟩
            · rcases at_snoc hr with ⟨_, hr⟩ | ⟨hj, rfl⟩
              · exact (hrow j x r hx hr).nl nl7
              · omega
            · rcases at_snoc hr with ⟨_, hr⟩ | ⟨hj, rfl⟩
              · omega
              · exact ⟨p5, rfl, hp7⟩
          have hok' : ∀ r ∈ rows ++ [ns], r.length = L ∧ ∀ z ∈ r, 0 ≤ z ∧ z < many := by
            intro r hr
            rcases List.mem_append.mp hr with m | m
            · exact hok r m
            · rw [List.mem_singleton.mp m]
              exact ⟨hly, hns⟩
          walk_at "go"
          refine i_d (fun _ => ?_) (fun _ => ?_)
          · walk_at "go"
            refine ⟨ty_l rfl g7g, ?_⟩
            walk_at "go"
            refine app_l g7g (by rw [List.length_map]; omega) ?_
            walk_at "go"
            refine ⟨_, _, rfl, ⟨xs ++ [V.ref p5], rows ++ [ns], gs ++ [(0 + (i : Nat) : Int)], d7.upd hlg nlg, by rw [upd_ne nlsg]; exact g7, by rw [upd_same, List.map_append]; rfl, by rw [List.length_append, lx]; rfl, by rw [List.length_append, lr]; rfl, ?_, hok', ?_, ?_, ?_⟩⟩
            · intro j x r hx hr
              exact (hrow' j x r hx hr).nl (upd_lst_nl g7g)
            · intro z hz
              rcases List.mem_append.mp hz with m | m
              · have := hgs z m
                omega
              · have := List.mem_singleton.mp m
                omega
            · rw [Int.zero_add]
              exact asc_snoc hasc hgs
            · rw [List.length_append]
              show gs.length + 1 ≤ i + 1
              omega
          · walk_at "go"
            exact ⟨_, _, rfl, ⟨xs ++ [V.ref p5], rows ++ [ns], gs, d7, g7, g7g, by rw [List.length_append, lx]; rfl, by rw [List.length_append, lr]; rfl, hrow', hok', fun z hz => by have := hgs z hz; omega, hasc, by omega⟩⟩
    · obtain ⟨y6, y7, rfl, ⟨xs, rows, gs, d, gls, glg, lx, lr, hrow, hok, hgs, hasc, hgl⟩⟩ := hp
      walk_at "go"
      refine tup_l (sqL gls) fun p8 H8 n8 e8 h8 _ => ?_
      walk_at "go"
      refine tup_l (sqL (e8 _ _ glg)) fun p9 H9 n9 e9 h9 _ => ?_
      walk_at "go"
      refine al_t (sz1000 (by show 2 ≤ 1000; decide)) fun p10 H10 n10 e10 h10 _ => ?_
      walk_at "go"
      have e89 := (e8.trans e9).trans e10
      refine q p10 _ _ rows gs H10 (d.trans (DrS.of d.dr e89)) (sqT h10) ⟨p8, xs, rfl, sqT ((e9.trans e10) _ _ h8), by omega, fun j x r hx hr => (hrow j x r hx hr).nl e89.nl⟩ ⟨p9, rfl, sqT (e10 _ _ h9)⟩ ⟨by omega, by omega, l1, l3, ?_, ?_, hasc⟩
      · intro r hr
        have := hok r hr
        exact ⟨this.1, fun z hz => ⟨(this.2 z hz).1, by have := (this.2 z hz).2; omega⟩⟩
      · intro z hz
        have := hgs z hz
        omega
/-! ### two values of the same structure -/
inductive Sm (K : PySem.W.Frag) (H : Hp) : Nat → V → V → Prop
  | non {n : Nat} : Sm K H n .non .non
  | bl {n : Nat} (b : Bool) : Sm K H n (.bl b) (.bl b)
  | int {n : Nat} (i : Int) : Sm K H n (.int i) (.int i)
  | str {n : Nat} (z : Str) : Sm K H n (.str z) (.str z)
  | tup {n : Nat} {a b : Addr} {xs ys : List V} (ha : SqT K H a xs) (hb : SqT K H b ys) (hl : xs.length = ys.length) (hs : ys.length ≤ 1000) (h : ∀ (i : Nat) (x y : V), xs[i]? = some x → ys[i]? = some y → Sm K H n x y) : Sm K H (n + 1) (.ref a) (.ref b)
  | lst {n : Nat} {a b : Addr} {xs ys : List V} (ha : H a = some (.lst xs)) (hb : H b = some (.lst ys)) (hl : xs.length = ys.length) (hs : ys.length ≤ 1000) (h : ∀ (i : Nat) (x y : V), xs[i]? = some x → ys[i]? = some y → Sm K H n x y) : Sm K H (n + 1) (.ref a) (.ref b)
theorem Sm.same {K : PySem.W.Frag} {H H' : Hp} (s : Same H H') : ∀ {n : Nat} {x y : V}, Sm K H n x y → Sm K H' n x y := by
  intro n
  induction n with
  | zero =>
    intro x y h
    cases h with
    | non => exact .non
    | bl b => exact .bl b
    | int i => exact .int i
    | str z => exact .str z
  | succ n ih =>
    intro x y h
    cases h with
    | non => exact .non
    | bl b => exact .bl b
    | int i => exact .int i
    | str z => exact .str z
    | tup ha hb hl hs h => exact .tup (s.t ha) (s.t hb) hl hs fun i x y hx hy => ih (h i x y hx hy)
    | lst ha hb hl hs h => exact .lst (s _ _ ha) (s _ _ hb) hl hs fun i x y hx hy => ih (h i x y hx hy)
def spAlike (K : PySem.W.Frag) (n : Nat) : Sp := fun vs H Q _ => ∃ x y, vs = [x, y] ∧ Sm K H n x y ∧ ∀ H', Same H H' → Q (.bl true) H'
/-- no call of it is allowed: for the turn below the last -/
def spNo : Sp := fun _ _ _ _ => False
theorem comp_none {K : PySem.W.Frag} {n : Nat} {g : TG} {tt : TT} {te : TE} {vs : List Nat} {σ σw : St} {H : Hp} {QD : Addr → Hp → Prop} (hw : wipe σ vs = σw)
    (he : ∀ (i : Nat) (H2 : Hp) (R : L2.St → Bool → Hp → Prop), i < n → Same H H2 → (∀ σ2 H4, Same H2 H4 → R σ2 false H4) → g (.int (0 + (i : Nat))) σw H2 fun σ2 H4 => wipe σ2 vs = σw ∧ tt σ2 H4 (R σ2))
    (q : ∀ D H', H D = none → Same H H' → H' D = some (.lst []) → QD D H') :
    ∀ D, H D = none → ∃ W : Nat → Nat → Hp → Prop, (∃ m, W 0 m (upd H D (.lst []))) ∧ ∀ i m H, W i m H →
      ((Itr 0 n).stop i H ∧ QD D H) ∨ ((Itr 0 n).go i H ∧ ∃ Nx : Hp → Prop, (∀ H', Nx H' → ∃ m', m' < m ∧ W (i + 1) m' H') ∧ ∀ x H', (Itr 0 n).yld i H x H' → g x (wipe σ vs) H' fun σ2 H2 => wipe σ2 vs = wipe σ vs ∧ tt σ2 H2 fun b H3 =>
        if b = true then te σ2 H3 fun y H4 => ∃ acc, H4 D = some (.lst acc) ∧ acc.length < sizeLine ∧ Nx (upd H4 D (.lst (acc ++ [y]))) else Nx H3) := by
  intro D hD
  refine lc_range (fun i H' => Same H H' ∧ H' D = some (.lst [])) ⟨same_upd hD, upd_same⟩ (fun i H2 hi h2 => ?_) fun H' h2 => q D H' hD h2.1 h2.2
  rw [hw]
  refine he i H2 (fun σ2 b H3 => if b = true then te σ2 H3 fun y H4 => ∃ acc, H4 D = some (.lst acc) ∧ acc.length < sizeLine ∧ Same H (upd H4 D (.lst (acc ++ [y]))) ∧ upd H4 D (.lst (acc ++ [y])) D = some (.lst []) else Same H H3 ∧ H3 D = some (.lst [])) hi h2.1 fun σ2 H4 s4 => ?_
  refine iteF ?_
  exact ⟨h2.1.trans s4, s4 _ _ h2.2⟩
theorem eq_nil {K : PySem.W.Frag} {H : Hp} {a b : Addr} {Q : VK} (ha : H a = some (.lst [])) (hb : H b = some (.lst [])) (q : Q (.bl true) H) : rEqU K (.ref a) (.ref b) H Q :=
  .inr ⟨.list [], .list [], .lst (sqL ha) .nil, .lst (sqL hb) .nil, rfl, rfl, q⟩
theorem alike_step (T : TxtP P K mg) {k n : Nat} (sp : Sp) (IH : FnOk P w K mg base CX0 k T.a__law_alike T.fd__law_alike ["_law_found", "_law_due"] sp)
    (hsp : ∀ (m : Nat), n = m + 1 → ∀ x y H (Q : VK) E, Sm K H m x y → (∀ H', Same H H' → Q (.bl true) H') → sp [x, y] H Q E) : FnOk P w K mg base CX0 (k + 1) T.a__law_alike T.fd__law_alike ["_law_found", "_law_due"] (spAlike K n) := by
  refine T.F__law_alike.ok sc__law_alike (fun vs H Q E h => ?_) (fun cdv A outer s H vs Q E hr h => ?_)
  · obtain ⟨x, y, rfl, _⟩ := h
    rfl
  · obtain ⟨x, y, rfl, hS, q⟩ := h
    refine ⟨_, (pss_cons (ps_if (pt_val (pe_callB (r := rIsiT K) call_isiT (by rfl) T.z_isinstance (by decide +kernel) (pa_cons (pv 1) (pa_cons (pe_tup (pa_cons (pe_bltn (v := .ty "tuple") (by rfl) T.z_tuple (by decide +kernel) rfl) (pa_cons (pe_bltn (v := .ty "list") (by rfl) T.z_list (by decide +kernel) rfl) pa_nil))) pa_nil)))) (pss_cons (ps_if (PW.pt (pw_or (pt_not (pt_val (pe_callB (r := rIsiT K) call_isiT (by rfl) T.z_isinstance (by decide +kernel) (pa_cons (pv 0) (pa_cons (pe_tup (pa_cons (pe_bltn (v := .ty "tuple") (by rfl) T.z_tuple (by decide +kernel) rfl) (pa_cons (pe_bltn (v := .ty "list") (by rfl) T.z_list (by decide +kernel) rfl) pa_nil))) pa_nil))))) (pw_or1 (pt_cmpR (r := rNeU K) (op_neU hr.units) (pe_callB (r := rIsi K) call_isi (by rfl) T.z_isinstance (by decide +kernel) (pa_cons (pv 0) (pa_cons (pe_bltn (v := .ty "list") (by rfl) T.z_list (by decide +kernel) rfl) pa_nil))) (pe_callB (r := rIsi K) call_isi (by rfl) T.z_isinstance (by decide +kernel) (pa_cons (pv 1) (pa_cons (pe_bltn (v := .ty "list") (by rfl) T.z_list (by decide +kernel) rfl) pa_nil))) (nomark _))))) (pss_one (ps_ret pe_bl)) pss_nil)
 (pss_cons (ps_if (pt_cmpR (r := rNeU K) (op_neU hr.units) (pe_callB (r := rLenU K) call_lenU (by rfl) T.z_len (by decide +kernel) (pa_cons (pv 0) pa_nil)) (pe_callB (r := rLenU K) call_lenU (by rfl) T.z_len (by decide +kernel) (pa_cons (pv 1) pa_nil)) (nomark _)) (pss_one (ps_ret pe_bl)) pss_nil)
 (pss_one (ps_ret (pe_cmpR (r := rEqU K) (op_eqU hr.units) (pe_lc (own := [("_law_k", 2)]) (g := (gName 2)) rfl sc__law_alike.nd (pi_range1 rfl T.z_range (pa_cons (pe_callB (r := rLenU K) call_lenU (by rfl) T.z_len (by decide +kernel) (pa_cons (pv 1) pa_nil)) pa_nil)) (blkOk_by (N := ["_law_found", "_law_due", "_law_k"]) (sc := defScope s__law_alike) (by decide +kernel)) (fun _ _ _ _ _ => (pg_name (i := 2) sc__law_alike.nd rfl (Or.inl rfl))) (fun _ _ _ _ _ => pts_one (pt_not (pt_val (pe_call IH hr (by rfl) T.g__law_alike T.F__law_alike.kp T.b__law_alike .nil pass0 (pa_cons (pe_ix (r := rIx K) ix_seq (pv 0) (pv 2) (fun _ _ => rfl)) (pa_cons (pe_ix (r := rIx K) ix_seq (pv 1) (pv 2) (fun _ _ => rfl)) pa_nil)))))) (fun _ _ _ _ _ => (pv 2))) (pe_lst pa_nil) (nomark _)))))) pss_nil)
 (pss_cons (ps_if (PW.pt (pw_or (pt_cmpR op_isN (pv 1) pe_non (nomark _)) (pw_or1 (pt_val (pe_callB (r := rIsi K) call_isi (by rfl) T.z_isinstance (by decide +kernel) (pa_cons (pv 1) (pa_cons (pe_bltn (v := .ty "str") (by rfl) T.z_str (by decide +kernel) rfl) pa_nil))))))) (pss_one (ps_ret (pe_and (pe_cmpR (r := rEqU K) (op_eqU hr.units) (pv 0) (pv 1) (nomark _)) (pe_one (pe_cmpR (r := rEqU K) (op_eqU hr.units) (pe_callB (r := rIsi K) call_isi (by rfl) T.z_isinstance (by decide +kernel) (pa_cons (pv 0) (pa_cons (pe_bltn (v := .ty "str") (by rfl) T.z_str (by decide +kernel) rfl) pa_nil))) (pe_callB (r := rIsi K) call_isi (by rfl) T.z_isinstance (by decide +kernel) (pa_cons (pv 1) (pa_cons (pe_bltn (v := .ty "str") (by rfl) T.z_str (by decide +kernel) rfl) pa_nil))) (nomark _)))))) pss_nil)
 (pss_one (ps_ret (pe_and (pe_callB (r := rIsi K) call_isi (by rfl) T.z_isinstance (by decide +kernel) (pa_cons (pv 0) (pa_cons (pe_bltn (v := .ty "int") (by rfl) T.z_int (by decide +kernel) rfl) pa_nil))) (pe_and (pe_cmpR (r := rEqU K) (op_eqU hr.units) (pe_callB (r := rIsi K) call_isi (by rfl) T.z_isinstance (by decide +kernel) (pa_cons (pv 0) (pa_cons (pe_bltn (v := .ty "bool") (by rfl) T.z_bool (by decide +kernel) rfl) pa_nil))) (pe_callB (r := rIsi K) call_isi (by rfl) T.z_isinstance (by decide +kernel) (pa_cons (pv 1) (pa_cons (pe_bltn (v := .ty "bool") (by rfl) T.z_bool (by decide +kernel) rfl) pa_nil))) (nomark _)) (pe_one (pe_cmpR (r := rEqU K) (op_eqU hr.units) (pv 0) (pv 1) (nomark _))))))))), ?_⟩
    refine st0 (σ' := [some _, some _, none]) rfl ?_
    cases hS with
    | non =>
      walk_at "go"
      refine al_t (sz1000 (by show 2 ≤ 1000; decide)) fun p1 H1 n1 e1 h1 _ => ?_
      walk_at "go"
      refine isi2 h1 Kd.non.ty kb_nt kb_nl ?_
      walk_at "go"
      refine i_f ?_
      walk_at "go"
      refine ⟨rfl, ?_⟩
      walk_at "go"
      refine i_dT rfl ?_
      walk_at "go"
      refine eq_s rfl ?_
      rw [decide_eq_true rfl]
      walk_at "go"
      refine isi Kd.non.ty kb_ns ?_
      walk_at "go"
      refine isi Kd.non.ty kb_ns ?_
      walk_at "go"
      exact q _ e1
    | bl b =>
      walk_at "go"
      refine al_t (sz1000 (by show 2 ≤ 1000; decide)) fun p1 H1 n1 e1 h1 _ => ?_
      walk_at "go"
      refine isi2 h1 (Kd.ty (.bl b)) kb_bt kb_bl ?_
      walk_at "go"
      refine i_f ?_
      walk_at "go"
      refine ⟨rfl, ?_⟩
      walk_at "go"
      refine i_dF (by intro z; cases z) ?_
      walk_at "go"
      refine isi (Kd.ty (.bl b)) kb_bs ?_
      walk_at "go"
      refine isi (Kd.ty (.bl b)) kb_bi ?_
      walk_at "go"
      refine isi (Kd.ty (.bl b)) kb_bb ?_
      walk_at "go"
      refine isi (Kd.ty (.bl b)) kb_bb ?_
      walk_at "go"
      rw [beq_self_eq_true]
      exact q _ e1
    | int i =>
      walk_at "go"
      refine al_t (sz1000 (by show 2 ≤ 1000; decide)) fun p1 H1 n1 e1 h1 _ => ?_
      walk_at "go"
      refine isi2 h1 (Kd.ty (.int i)) kb_it kb_il ?_
      walk_at "go"
      refine i_f ?_
      walk_at "go"
      refine ⟨rfl, ?_⟩
      walk_at "go"
      refine i_dF (by intro z; cases z) ?_
      walk_at "go"
      refine isi (Kd.ty (.int i)) kb_is ?_
      walk_at "go"
      refine isi (Kd.ty (.int i)) kb_ii ?_
      walk_at "go"
      refine isi (Kd.ty (.int i)) kb_ib ?_
      walk_at "go"
      refine isi (Kd.ty (.int i)) kb_ib ?_
      walk_at "go"
      rw [decide_eq_true rfl]
      exact q _ e1
    | str z =>
      walk_at "go"
      refine al_t (sz1000 (by show 2 ≤ 1000; decide)) fun p1 H1 n1 e1 h1 _ => ?_
      walk_at "go"
      refine isi2 h1 (Kd.ty (.str z)) kb_st kb_sl ?_
      walk_at "go"
      refine i_f ?_
      walk_at "go"
      refine ⟨rfl, ?_⟩
      walk_at "go"
      refine i_dF (by intro z; cases z) ?_
      walk_at "go"
      refine isi (Kd.ty (.str z)) kb_ss ?_
      walk_at "go"
      refine eq_s rfl ?_
      rw [decide_eq_true rfl]
      walk_at "go"
      refine isi (Kd.ty (.str z)) kb_ss ?_
      walk_at "go"
      refine isi (Kd.ty (.str z)) kb_ss ?_
      walk_at "go"
      exact q _ e1
    | @tup m a b xs ys ha hb hl hs hh =>
      walk_at "go"
      refine al_t (sz1000 (by show 2 ≤ 1000; decide)) fun p1 H1 n1 e1 h1 _ => ?_
      walk_at "go"
      refine isi2 h1 (Kd.ty (.tup (e1.t hb))) kb_tt kb_tl ?_
      walk_at "go"
      refine i_t ?_
      walk_at "go"
      refine al_t (sz1000 (by show 2 ≤ 1000; decide)) fun p2 H2 n2 e2 h2 _ => ?_
      have e12 := e1.trans e2
      walk_at "go"
      refine isi2 h2 (Kd.ty (.tup (e12.t ha))) kb_tt kb_tl ?_
      walk_at "go"
      refine i_nt ?_
      walk_at "go"
      refine isi (Kd.ty (.tup (e12.t ha))) kb_tl ?_
      walk_at "go"
      refine isi (Kd.ty (.tup (e12.t hb))) kb_tl ?_
      walk_at "go"
      refine len_t (e12.t ha) ?_
      walk_at "go"
      refine len_t (e12.t hb) ?_
      walk_at "go"
      refine i_nd (fun z => absurd (by rw [hl]) z) (fun _ => ?_)
      walk_at "go"
      refine e_lcR ?_
      walk_at "go"
      refine len_t (e12.t hb) ?_
      walk_at "go"
      refine ⟨_, rfl, by omega, by omega, ?_⟩
      rw [Int.toNat_natCast]
      refine comp_none (K := K) (σw := [some (.ref a), some (.ref b), none]) rfl ?_ ?_
      · intro i H3 R hi s3 hR
        have hx : xs[i]? = some (xs[i]'(by omega)) := List.getElem?_eq_getElem (by omega)
        have hy : ys[i]? = some (ys[i]'(by omega)) := List.getElem?_eq_getElem (by omega)
        have e13 := e12.trans s3
        walk_at "go"
        refine ⟨rfl, ?_⟩
        walk_at "go"
        refine ix_t (e13.t ha) (at_int (by omega) (by rw [show (0 + (i : Int)).toNat = i by omega]; exact hx)) ?_
        walk_at "go"
        refine ix_t (e13.t hb) (at_int (by omega) (by rw [show (0 + (i : Int)).toNat = i by omega]; exact hy)) ?_
        walk_at "go"
        refine hsp m rfl _ _ _ _ _ ((hh i _ _ hx hy).same e13) fun H4 s4 => ?_
        walk_at "go"
        exact hR _ _ s4
      · intro D H3 hD s3 hd
        walk_at "go"
        refine al_l (sz1000 (by show 0 ≤ 1000; decide)) fun p4 H4 n4 e4 h4 _ => ?_
        refine eq_nil (e4 _ _ hd) h4 ?_
        exact q _ ((e12.trans s3).trans e4)
    | @lst m a b xs ys ha hb hl hs hh =>
      walk_at "go"
      refine al_t (sz1000 (by show 2 ≤ 1000; decide)) fun p1 H1 n1 e1 h1 _ => ?_
      walk_at "go"
      refine isi2 h1 (Kd.ty (.lst (e1 _ _ hb))) kb_lt kb_ll ?_
      walk_at "go"
      refine i_t ?_
      walk_at "go"
      refine al_t (sz1000 (by show 2 ≤ 1000; decide)) fun p2 H2 n2 e2 h2 _ => ?_
      have e12 := e1.trans e2
      walk_at "go"
      refine isi2 h2 (Kd.ty (.lst (e12 _ _ ha))) kb_lt kb_ll ?_
      walk_at "go"
      refine i_nt ?_
      walk_at "go"
      refine isi (Kd.ty (.lst (e12 _ _ ha))) kb_ll ?_
      walk_at "go"
      refine isi (Kd.ty (.lst (e12 _ _ hb))) kb_ll ?_
      walk_at "go"
      refine len_l (sqL (e12 _ _ ha)) ?_
      walk_at "go"
      refine len_l (sqL (e12 _ _ hb)) ?_
      walk_at "go"
      refine i_nd (fun z => absurd (by rw [hl]) z) (fun _ => ?_)
      walk_at "go"
      refine e_lcR ?_
      walk_at "go"
      refine len_l (sqL (e12 _ _ hb)) ?_
      walk_at "go"
      refine ⟨_, rfl, by omega, by omega, ?_⟩
      rw [Int.toNat_natCast]
      refine comp_none (K := K) (σw := [some (.ref a), some (.ref b), none]) rfl ?_ ?_
      · intro i H3 R hi s3 hR
        have hx : xs[i]? = some (xs[i]'(by omega)) := List.getElem?_eq_getElem (by omega)
        have hy : ys[i]? = some (ys[i]'(by omega)) := List.getElem?_eq_getElem (by omega)
        have e13 := e12.trans s3
        walk_at "go"
        refine ⟨rfl, ?_⟩
        walk_at "go"
        refine ix_l (sqL (e13 _ _ ha)) (at_int (by omega) (by rw [show (0 + (i : Int)).toNat = i by omega]; exact hx)) ?_
        walk_at "go"
        refine ix_l (sqL (e13 _ _ hb)) (at_int (by omega) (by rw [show (0 + (i : Int)).toNat = i by omega]; exact hy)) ?_
        walk_at "go"
        refine hsp m rfl _ _ _ _ _ ((hh i _ _ hx hy).same e13) fun H4 s4 => ?_
        walk_at "go"
        exact hR _ _ s4
      · intro D H3 hD s3 hd
        walk_at "go"
        refine al_l (sz1000 (by show 0 ≤ 1000; decide)) fun p4 H4 n4 e4 h4 _ => ?_
        refine eq_nil (e4 _ _ hd) h4 ?_
        exact q _ ((e12.trans s3).trans e4)
theorem ok_alike_n (T : TxtP P K mg) : ∀ n : Nat, FnOk P w K mg base CX0 (n + 2) T.a__law_alike T.fd__law_alike ["_law_found", "_law_due"] (spAlike K n)
  | 0 => by
    have IH : FnOk P w K mg base CX0 1 T.a__law_alike T.fd__law_alike ["_law_found", "_law_due"] spNo :=
      T.F__law_alike.ok sc__law_alike (fun vs H Q E h => False.elim h) (fun cdv A outer s H vs Q E hr h => False.elim h)
    exact alike_step T spNo IH fun m e => nomatch e
  | n + 1 => by
    refine alike_step T (spAlike K n) (ok_alike_n T n) fun m e x y H Q E h q => ?_
    obtain rfl : n = m := Nat.succ.inj e
    exact ⟨x, y, rfl, h, q⟩
theorem ok__law_alike (T : TxtP P K mg) : FnOk P w K mg base CX0 5 T.a__law_alike T.fd__law_alike ["_law_found", "_law_due"] (spAlike K 3) := ok_alike_n T 3
/-! ### _law_spoilt -/
theorem Kd.dr {K : PySem.W.Frag} {H H' : Hp} {h pc : Addr} {x : V} {t : String} (D : Dr H h pc) (s : DrS h pc H H') (k : Kd K H x t) : Kd K H' x t := by
  cases k with
  | non => exact .non
  | bl b => exact .bl b
  | int i => exact .int i
  | str z => exact .str z
  | tup hh => exact .tup ((D.nl s.bt).t hh)
  | @lst a xs hh =>
    by_cases m : a ∈ [h, pc]
    · obtain ⟨st, ix, cs, h1, h2, _⟩ := s.dr.ex
      rcases List.mem_cons.mp m with e | e
      · rw [e]
        exact .lst h1
      · rw [List.mem_singleton.mp e]
        exact .lst h2
    · exact .lst (s.get hh m)
theorem NoT.dr {K : PySem.W.Frag} {H H' : Hp} {h pc : Addr} {x : V} (D : Dr H h pc) (s : DrS h pc H H') (k : NoT K H x) : NoT K H' x := by
  obtain ⟨t, k, e⟩ := k
  exact ⟨t, k.dr D s, e⟩
theorem ItAt.dr {K : PySem.W.Frag} {H H' : Hp} {h pc : Addr} {x : V} {I : Option (List V)} (D : Dr H h pc) (s : DrS h pc H H') (k : ItAt K H x I) : ItAt K H' x I := by
  cases I with
  | none => exact NoT.dr D s k
  | some xs =>
    obtain ⟨a, e, hh, l, f⟩ := k
    exact ⟨a, e, (D.nl s.bt).t hh, l, f⟩
theorem StAt.dr {K : PySem.W.Frag} {H H' : Hp} {h pc : Addr} {x : V} {S : Option (List (Option (List V)))} (D : Dr H h pc) (s : DrS h pc H H') (k : StAt K H x S) : StAt K H' x S := by
  cases S with
  | none => exact NoT.dr D s k
  | some its =>
    obtain ⟨a, xs, e, hh, l, z, f⟩ := k
    exact ⟨a, xs, e, (D.nl s.bt).t hh, l, z, fun i x I h1 h2 => (f i x I h1 h2).dr D s⟩
/-- a row of steps with at most n things -/
def RowA (K : PySem.W.Frag) (n : Nat) (H : Hp) (x : V) : Prop := ∃ I, ItAt K H x I ∧ ilen I ≤ n
theorem RowA.same {K : PySem.W.Frag} {n : Nat} {H H' : Hp} {x : V} (k : RowA K n H x) (s : Same H H') : RowA K n H' x := by
  obtain ⟨I, k, e⟩ := k
  exact ⟨I, k.same s, e⟩
theorem RowA.dr {K : PySem.W.Frag} {n : Nat} {H H' : Hp} {h pc : Addr} {x : V} (D : Dr H h pc) (s : DrS h pc H H') (k : RowA K n H x) : RowA K n H' x := by
  obtain ⟨I, k, e⟩ := k
  exact ⟨I, k.dr D s, e⟩
theorem RowA.tup {K : PySem.W.Frag} {n : Nat} {H : Hp} {a : Addr} {xs : List V} (h : SqT K H a xs) (hl : xs.length ≤ n) (hn : n ≤ 1000) (hf : ∀ y ∈ xs, Fl y = true) : RowA K n H (.ref a) := ⟨some xs, ⟨a, rfl, h, Nat.le_trans hl hn, hf⟩, hl⟩
theorem RowA.no {K : PySem.W.Frag} {n : Nat} {H : Hp} {x : V} {t : String} (k : Kd K H x t) (e : kitB t "tuple" = some false) : RowA K n H x := ⟨none, ⟨t, k, e⟩, Nat.zero_le _⟩
theorem RowA.mono {K : PySem.W.Frag} {n m : Nat} {H : Hp} {x : V} (k : RowA K n H x) (h : n ≤ m) : RowA K m H x := by
  obtain ⟨I, k, e⟩ := k
  exact ⟨I, k, Nat.le_trans e h⟩
/-- a tuple of rows -/
def StsA (K : PySem.W.Frag) (m n : Nat) (H : Hp) (v : V) : Prop := ∃ a xs, v = .ref a ∧ SqT K H a xs ∧ 1 ≤ xs.length ∧ xs.length ≤ m ∧ ∀ x ∈ xs, RowA K n H x
theorem StsA.dr {K : PySem.W.Frag} {m n : Nat} {H H' : Hp} {h pc : Addr} {x : V} (D : Dr H h pc) (s : DrS h pc H H') (k : StsA K m n H x) : StsA K m n H' x := by
  obtain ⟨a, xs, e, hh, l1, l2, f⟩ := k
  exact ⟨a, xs, e, (D.nl s.bt).t hh, l1, l2, fun y hy => (f y hy).dr D s⟩
theorem rows_st {K : PySem.W.Frag} {n : Nat} {H : Hp} : ∀ xs : List V, (∀ x ∈ xs, RowA K n H x) → ∃ its : List (Option (List V)), xs.length = its.length ∧ ∀ (i : Nat) (x : V) (I : Option (List V)), xs[i]? = some x → its[i]? = some I → ItAt K H x I
  | [], _ => ⟨[], rfl, fun i x I h => by simp at h⟩
  | x :: xs, h => by
    obtain ⟨I, hI, _⟩ := h x List.mem_cons_self
    obtain ⟨its, e, hh⟩ := rows_st xs fun y hy => h y (List.mem_cons_of_mem _ hy)
    refine ⟨I :: its, by rw [List.length_cons, List.length_cons, e], fun i y J h1 h2 => ?_⟩
    cases i with
    | zero =>
      cases h1
      cases h2
      exact hI
    | succ i => exact hh i y J h1 h2
theorem st_of {K : PySem.W.Frag} {n : Nat} {H : Hp} {a : Addr} {xs : List V} (h : SqT K H a xs) (hl : xs.length ≤ 1000) (hf : ∀ x ∈ xs, RowA K n H x) : ∃ S, StAt K H (.ref a) S := by
  obtain ⟨its, e, hh⟩ := rows_st xs hf
  exact ⟨some its, a, xs, rfl, h, e, hl, hh⟩
theorem rep_t {K : PySem.W.Frag} {H : Hp} {a : Addr} {k : Int} {xs : List V} {Q : VK} (h : SqT K H a xs) (hn : xs ≠ []) (h2 : 2 ≤ k) (h3 : k ≤ 1000) (hl : xs.length ≤ 1000) (q : ∀ p H', H p = none → Same H H' → H' p = some (.tup (List.replicate k.toNat xs).flatten) → Q (.ref p) H') : rOr rMulU (rRepT K) (.ref a) (.int k) H Q :=
  .inr ⟨a, k, xs, rfl, rfl, h, hn, h2, h3, hl, fun p hp => q p _ hp (same_upd hp) upd_same⟩
theorem rep_l {K : PySem.W.Frag} {H : Hp} {a : Addr} {k : Int} {xs : List V} {Q : VK} (h : H a = some (.lst xs)) (h2 : 0 ≤ k) (h3 : k ≤ 1000) (hl : xs.length ≤ 1000) (q : ∀ p H', H p = none → Same H H' → H' p = some (.lst (List.replicate k.toNat xs).flatten) → Q (.ref p) H') : rOr rMulU (rRepT K) (.ref a) (.int k) H Q :=
  .inl (.inr ⟨a, k, xs, rfl, rfl, h, by omega, by omega, by
    have e : sizeLine = 16777216 := sizeLine_eq
    have e2 : xs.length * k.toNat ≤ 1000 * 1000 := Nat.mul_le_mul hl (by omega)
    omega, fun p hp => q p _ hp (same_upd hp) upd_same⟩)
theorem s_cut {t : TS} {D : Ends} {σ : L2.St} {H : Hp} (Pm : L2.St → Hp → Prop) (h : ∀ N : L2.St → Hp → Prop, (∀ σ' H', Pm σ' H' → N σ' H') → t { D with nx := N } σ H) (q : ∀ σ' H', Pm σ' H' → D.nx σ' H') : t D σ H := h D.nx q
def spSpoilt (K : PySem.W.Frag) : Sp := fun vs H Q _ => ∃ (h pc : Addr) (v : V), vs = [.ref h, v] ∧ Dr H h pc ∧ StsA K 8 4 H v ∧ ∀ w S H', DrS h pc H H' → StAt K H' w S → Q w H'
theorem fl0 : Fl (.int 0) = true := rfl
theorem ok__law_spoilt (T : TxtP P K mg) : FnOk P w K mg base CX0 3 T.a__law_spoilt T.fd__law_spoilt ["_law_h", "_law_steps"] (spSpoilt K) := by
  refine T.F__law_spoilt.ok sc__law_spoilt (fun vs H Q E h => ?_) (fun cdv A outer s H vs Q E hr h => ?_)
  · obtain ⟨h, pc, v, rfl, _⟩ := h
    rfl
  · obtain ⟨h, pc, v, rfl, D0, hv, q⟩ := h
    refine ⟨_, (pss_cons (ps_set (i := 2) sc__law_spoilt.nd rfl (Or.inl rfl) (pe_callB (r := rLenU K) call_lenU (by rfl) T.z_len (by decide +kernel) (pa_cons (pv 1) pa_nil)))
 (pss_cons (ps_set (i := 3) sc__law_spoilt.nd rfl (Or.inl rfl) (pe_lst (pa_cons (pe_tup pa_nil) (pa_cons (pe_op (op_or op_mulU op_repT) (pe_tup (pa_cons pe_int pa_nil)) pe_int) (pa_cons (pe_tup (pa_cons pe_int pa_nil)) (pa_cons (pe_tup (pa_cons pe_int (pa_cons pe_int pa_nil))) (pa_cons (pe_lst (pa_cons pe_int (pa_cons pe_int pa_nil))) (pa_cons pe_non (pa_cons pe_int (pa_cons pe_str (pa_cons (pe_tup (pa_cons (pv 2) pa_nil)) (pa_cons (pe_tup (pa_cons pe_int (pa_cons (pe_un un_neg pe_int) pa_nil))) (pa_cons (pe_tup (pa_cons pe_bl (pa_cons pe_int pa_nil))) (pa_cons (pe_tup (pa_cons pe_int (pa_cons pe_non pa_nil))) pa_nil))))))))))))))
 (pss_cons (ps_for PassesOwn.never rfl (pi_range1 rfl T.z_range (pa_cons (pe_call (ok__law_pick T) (hr.mono (by decide)) (by rfl) T.g__law_pick T.F__law_pick.kp T.b__law_pick .nil pass0 (pa_cons (pv 0) (pa_cons (pe_lst (pa_cons pe_int (pa_cons pe_int (pa_cons pe_int (pa_cons pe_int (pa_cons pe_int pa_nil)))))) pa_nil))) pa_nil)) (pg_name (i := 4) sc__law_spoilt.nd rfl (Or.inl rfl))
 (pss_cons (ps_set (i := 5) sc__law_spoilt.nd rfl (Or.inl rfl) (pe_call (ok__law_next T) (hr.mono (by decide)) (by rfl) T.g__law_next T.F__law_next.kp T.b__law_next .nil pass0 (pa_cons (pv 0) (pa_cons (pe_callB (r := rLenU K) call_lenU (by rfl) T.z_len (by decide +kernel) (pa_cons (pv 1) pa_nil)) pa_nil))))
 (pss_cons (ps_set (i := 6) sc__law_spoilt.nd rfl (Or.inl rfl) (pe_call (ok__law_pick T) (hr.mono (by decide)) (by rfl) T.g__law_pick T.F__law_pick.kp T.b__law_pick .nil pass0 (pa_cons (pv 0) (pa_cons (pv 3) pa_nil))))
 (pss_cons (ps_if (PW.pt (pw_and (pt_val (pe_callB (r := rIsi K) call_isi (by rfl) T.z_isinstance (by decide +kernel) (pa_cons (pe_ix (r := rIx K) ix_seq (pv 1) (pv 5) (fun _ _ => rfl)) (pa_cons (pe_bltn (v := .ty "tuple") (by rfl) T.z_tuple (by decide +kernel) rfl) pa_nil)))) (pw_and1 (pt_cmpR (r := rEqU K) (op_eqU hr.units) (pe_call (ok__law_next T) (hr.mono (by decide)) (by rfl) T.g__law_next T.F__law_next.kp T.b__law_next .nil pass0 (pa_cons (pv 0) (pa_cons pe_int pa_nil))) pe_int (nomark _))))) (pss_cons (ps_set (i := 7) sc__law_spoilt.nd rfl (Or.inl rfl) (pe_call (ok__law_next T) (hr.mono (by decide)) (by rfl) T.g__law_next T.F__law_next.kp T.b__law_next .nil pass0 (pa_cons (pv 0) (pa_cons (pe_op (r := rAddU K) op_addU (pe_callB (r := rLenU K) call_lenU (by rfl) T.z_len (by decide +kernel) (pa_cons (pe_ix (r := rIx K) ix_seq (pv 1) (pv 5) (fun _ _ => rfl)) pa_nil)) pe_int) pa_nil))))
 (pss_cons (ps_set (i := 8) sc__law_spoilt.nd rfl (Or.inl rfl) (pe_call (ok__law_pick T) (hr.mono (by decide)) (by rfl) T.g__law_pick T.F__law_pick.kp T.b__law_pick .nil pass0 (pa_cons (pv 0) (pa_cons (pe_lst (pa_cons pe_int (pa_cons (pv 2) (pa_cons (pe_un un_neg pe_int) (pa_cons pe_bl (pa_cons pe_non (pa_cons pe_str (pa_cons (pe_op op_sub (pv 2) pe_int) pa_nil)))))))) pa_nil))))
 (pss_one (ps_set (i := 6) sc__law_spoilt.nd rfl (Or.inl rfl) (pe_op (r := rAddU K) op_addU (pe_op (r := rAddU K) op_addU (pe_slice (r := rSlU K) sl_U (pe_ix (r := rIx K) ix_seq (pv 1) (pv 5) (fun _ _ => rfl)) po_none (po_some (pv 7))) (pe_tup (pa_cons (pv 8) pa_nil))) (pe_slice (r := rSlU K) sl_U (pe_ix (r := rIx K) ix_seq (pv 1) (pv 5) (fun _ _ => rfl)) (po_some (pe_op (r := rAddU K) op_addU (pv 7) pe_int)) po_none)))))) pss_nil)
 (pss_one (ps_set (i := 1) sc__law_spoilt.nd rfl (Or.inl rfl) (pe_op (r := rAddU K) op_addU (pe_op (r := rAddU K) op_addU (pe_slice (r := rSlU K) sl_U (pv 1) po_none (po_some (pv 5))) (pe_tup (pa_cons (pv 6) pa_nil))) (pe_slice (r := rSlU K) sl_U (pv 1) (po_some (pe_op (r := rAddU K) op_addU (pv 5) (pe_call (ok__law_pick T) (hr.mono (by decide)) (by rfl) T.g__law_pick T.F__law_pick.kp T.b__law_pick .nil pass0 (pa_cons (pv 0) (pa_cons (pe_lst (pa_cons pe_int (pa_cons pe_int (pa_cons pe_int pa_nil)))) pa_nil))))) po_none))))))))
 (pss_one (ps_ret (pe_call (ok__law_pick T) (hr.mono (by decide)) (by rfl) T.g__law_pick T.F__law_pick.kp T.b__law_pick .nil pass0 (pa_cons (pv 0) (pa_cons (pe_op (r := rAddU K) op_addU (pe_op (op_or op_mulU op_repT) (pe_lst (pa_cons (pv 1) pa_nil)) pe_int) (pe_lst (pa_cons (pe_callTy (r := rListU K) call_listU (by rfl) T.z_list (by decide +kernel) (pa_cons (pv 1) pa_nil)) (pa_cons pe_non (pa_cons (pe_tup pa_nil) (pa_cons (pe_op (op_or op_mulU op_repT) (pe_slice (r := rSlU K) sl_U (pv 1) po_none (po_some pe_int)) pe_int) pa_nil)))))) pa_nil)))))))), ?_⟩
    refine st0 (σ' := [some _, some _, none, none, none, none, none, none, none]) rfl ?_
    obtain ⟨a, xs, rfl, hx, x1, x8, hrow⟩ := id hv
    walk_at "go"
    refine len_t hx ?_
    walk_at "go"
    refine al_t (sz1000 (by show 0 ≤ 1000; decide)) fun p1 H1 n1 e1 h1 _ => ?_
    walk_at "go"
    refine al_t (sz1000 (by show 1 ≤ 1000; decide)) fun p2 H2 n2 e2 h2 _ => ?_
    walk_at "go"
    refine rep_t (sqT h2) (by simp) (by decide) (by decide) (by show 1 ≤ 1000; decide) fun p2' H2' n2' e2' h2' => ?_
    walk_at "go"
    refine al_t (sz1000 (by show 1 ≤ 1000; decide)) fun p3 H3 n3 e3 h3 _ => ?_
    walk_at "go"
    refine al_t (sz1000 (by show 2 ≤ 1000; decide)) fun p4 H4 n4 e4 h4 _ => ?_
    walk_at "go"
    refine al_l (sz1000 (by show 2 ≤ 1000; decide)) fun p5 H5 n5 e5 h5 _ => ?_
    walk_at "go"
    refine al_t (sz1000 (by show 1 ≤ 1000; decide)) fun p6 H6 n6 e6 h6 _ => ?_
    walk_at "go"
    refine ⟨1, rfl, ?_⟩
    walk_at "go"
    refine al_t (sz1000 (by show 2 ≤ 1000; decide)) fun p7 H7 n7 e7 h7 _ => ?_
    walk_at "go"
    refine al_t (sz1000 (by show 2 ≤ 1000; decide)) fun p8 H8 n8 e8 h8 _ => ?_
    walk_at "go"
    refine al_t (sz1000 (by show 2 ≤ 1000; decide)) fun p9 H9 n9 e9 h9 _ => ?_
    walk_at "go"
    refine al_l (sz1000 (by show 12 ≤ 1000; decide)) fun po Ho no eo ho _ => ?_
    generalize hodd : [V.ref p1, V.ref p2', V.ref p3, V.ref p4, V.ref p5, V.non, V.int 0, V.str "00", V.ref p6, V.ref p7, V.ref p8, V.ref p9] = odd at ho
    have s9 := eo
    have s8 := e9.trans s9
    have s7 := e8.trans s8
    have s6 := e7.trans s7
    have s5 := e6.trans s6
    have s4 := e5.trans s5
    have s3 := e4.trans s4
    have s2' := e3.trans s3
    have s2 := e2'.trans s2'
    have s1 := e2.trans s2
    have s0 := e1.trans s1
    have hall : ∀ x ∈ odd, RowA K 4 Ho x := by
      intro x hx'
      rw [← hodd] at hx'
      simp only [List.mem_cons, List.not_mem_nil, or_false] at hx'
      rcases hx' with rfl | rfl | rfl | rfl | rfl | rfl | rfl | rfl | rfl | rfl | rfl | rfl
      · exact (RowA.tup (sqT h1) (by decide) (by decide) (by simp)).same s1
      · exact (RowA.tup (sqT h2') (by decide) (by decide) (by simp [Fl])).same s2'
      · exact (RowA.tup (sqT h3) (by decide) (by decide) (by simp [Fl])).same s3
      · exact (RowA.tup (sqT h4) (by decide) (by decide) (by simp [Fl])).same s4
      · exact (RowA.no (.lst h5) kb_lt).same s5
      · exact RowA.no .non kb_nt
      · exact RowA.no (.int 0) kb_it
      · exact RowA.no (.str _) kb_st
      · exact (RowA.tup (sqT h6) (by show 1 ≤ 4; decide) (by decide) (by simp [Fl])).same s6
      · exact (RowA.tup (sqT h7) (by decide) (by decide) (by simp [Fl])).same s7
      · exact (RowA.tup (sqT h8) (by decide) (by decide) (by simp [Fl])).same s8
      · exact (RowA.tup (sqT h9) (by decide) (by decide) (by simp [Fl])).same s9
    have ol : odd.length = 12 := by
      rw [← hodd]
      rfl
    have hpo : po ∉ [h, pc] := D0.not (none_of (e1.trans (e2.trans (e2'.trans (e3.trans (e4.trans (e5.trans (e6.trans (e7.trans (e8.trans e9))))))))) no)
    clear hodd h1 h2 h2' h3 h4 h5 h6 h7 h8 h9
    have d0 : DrS h pc H Ho := DrS.of D0 s0
    walk_at "go"
    refine f_forR ?_
    walk_at "go"
    refine al_l (sz1000 (by show 5 ≤ 1000; decide)) fun pl Hl nl el hl _ => ?_
    walk_at "go"
    refine ⟨h, pc, pl, _, rfl, d0.dr.same el, by show 0 < 5; decide, by show 5 ≤ 1000; decide, .inr ⟨hl, d0.dr.not nl⟩, fun i x Hm hxm sm => ?_⟩
    have dm : DrS h pc H Hm := (d0.trans (DrS.of d0.dr el)).trans sm
    obtain ⟨c, rfl, c0, c2⟩ : ∃ c : Int, x = .int c ∧ 0 ≤ c ∧ c ≤ 2 := by
      have := List.mem_of_getElem? hxm
      simp only [List.mem_cons, List.not_mem_nil, or_false] at this
      rcases this with rfl | rfl | rfl | rfl | rfl <;> exact ⟨_, rfl, by decide, by decide⟩
    have hom : Hm po = some (.lst odd) := sm.get (el _ _ ho) hpo
    have hallm : ∀ x ∈ odd, RowA K 4 Hm x := fun x hx' => ((hall x hx').same el).dr (d0.dr.same el) sm
    walk_at "go"
    refine ⟨c, rfl, by omega, by omega, for_range (fun i σ Hc => ∃ va y4 y5 y6 y7 y8, σ = [some (.ref h), some va, some (.int xs.length), some (.ref po), y4, y5, y6, y7, y8] ∧ DrS h pc H Hc ∧ StsA K (9 * 2 ^ i - 1) (5 * 2 ^ i - 1) Hc va ∧ Hc po = some (.lst odd) ∧ ∀ x ∈ odd, RowA K 4 Hc x) ⟨_, _, _, _, _, _, rfl, dm, hv.dr D0 dm, hom, hallm⟩ (fun i σ Hc hi hp => ?_) (fun σ Hc hp => ?_)⟩
    · obtain ⟨va, y4, y5, y6, y7, y8, rfl, dc, hva, hoc, hallc⟩ := hp
      obtain ⟨b, ws, rfl, hws, w1, w8, hwr⟩ := id hva
      have ci : i < 2 := by omega
      have p5 : 5 * 2 ^ i ≤ 10 := by
        have : i = 0 ∨ i = 1 := by omega
        rcases this with rfl | rfl <;> decide
      have p9 : 9 * 2 ^ i ≤ 18 := by
        have : i = 0 ∨ i = 1 := by omega
        rcases this with rfl | rfl <;> decide
      have p1' : 1 ≤ 2 ^ i := Nat.one_le_two_pow
      walk_at "go"
      refine len_t hws ?_
      walk_at "go"
      refine ⟨h, pc, _, rfl, dc.dr, by omega, by omega, fun r H2 r0 r1 q2 => ?_⟩
      walk_at "go"
      refine ⟨h, pc, po, odd, rfl, q2.dr, by omega, by omega, .inr ⟨q2.get hoc hpo, hpo⟩, fun j rw0 H3 hj q3 => ?_⟩
      walk_at "st"
      walk_at "st"
      walk_at "st"
      have d3 : DrS h pc Hc H3 := q2.trans q3
      have hw3 : SqT K H3 b ws := (dc.dr.nl d3.bt).t hws
      have hrx : ws[r.toNat]? = some (ws[r.toNat]'(by omega)) := List.getElem?_eq_getElem (by omega)
      generalize hxr : ws[r.toNat]'(by omega) = xr at hrx
      obtain ⟨I, hI, hIl⟩ := (hwr xr (List.mem_of_getElem? hrx)).dr dc.dr d3
      have hrw0 : RowA K (5 * 2 ^ (i + 1) - 1) H3 rw0 := ((hallc rw0 (List.mem_of_getElem? hj)).dr dc.dr d3).mono (by rw [Nat.pow_succ]; omega)
      refine s_cut (fun σ' H' => ∃ rw y4 y7 y8, σ' = [some (.ref h), some (.ref b), some (.int xs.length), some (.ref po), y4, some (.int r), some rw, y7, y8] ∧ DrS h pc H3 H' ∧ RowA K (5 * 2 ^ (i + 1) - 1) H' rw) (fun N hN => ?_) (fun σ' H' hp => ?_)
      · walk_at "go"
        refine ix_t hw3 (at_int r0 hrx) ?_
        walk_at "go"
        cases I with
        | none =>
          obtain ⟨t', k, kt⟩ := hI
          refine isi k.ty kt ?_
          walk_at "go"
          exact hN _ _ ⟨_, _, _, _, rfl, DrS.refl d3.dr, hrw0⟩
        | some ys =>
          obtain ⟨c, rfl, hc, hcz, hfl⟩ := hI
          have hIl' : ys.length ≤ 5 * 2 ^ i - 1 := hIl
          refine isi (tyx_t hc) kb_tt ?_
          walk_at "go"
          refine ⟨h, pc, 2, rfl, d3.dr, by decide, by decide, fun z H4 z0 z1 q4 => ?_⟩
          walk_at "go"
          refine i_d (fun ez => ?_) (fun ne => ?_)
          · walk_at "go"
            have hw4 := (d3.dr.nl q4.bt).t hw3
            have hc4 := (d3.dr.nl q4.bt).t hc
            refine ix_t hw4 (at_int r0 hrx) ?_
            walk_at "go"
            refine len_t hc4 ?_
            walk_at "go"
            refine ⟨h, pc, _, rfl, q4.dr, by omega, by omega, fun at' H5 a0 a1 q5 => ?_⟩
            walk_at "go"
            refine ⟨1, rfl, ?_⟩
            walk_at "go"
            refine al_l (sz1000 (by show 7 ≤ 1000; decide)) fun pg H6 n6 e6 h6 _ => ?_
            walk_at "go"
            refine ⟨h, pc, pg, _, rfl, q5.dr.same e6, by show 0 < 7; decide, by show 7 ≤ 1000; decide, .inr ⟨h6, q5.dr.not n6⟩, fun k gv H7 hk q7 => ?_⟩
            have hgv : Fl gv = true := by
              have := List.mem_of_getElem? hk
              simp only [List.mem_cons, List.not_mem_nil, or_false] at this
              rcases this with rfl | rfl | rfl | rfl | rfl | rfl | rfl <;> first | rfl | decide +kernel
            have d7 : DrS h pc H4 H7 := (q5.trans (DrS.of q5.dr e6)).trans q7
            have hw7 := (q4.dr.nl d7.bt).t hw4
            have hc7 := (q4.dr.nl d7.bt).t hc4
            clear hk
            walk_at "go"
            refine ix_t hw7 (at_int r0 hrx) ?_
            walk_at "go"
            refine sl_t hc7 fun s1' G1 f1 g1 => ?_
            walk_at "go"
            refine al_t (sz1000 (by show 1 ≤ 1000; decide)) fun s2'' G2 m2 f2 g2 _ => ?_
            have l1 := cutV_length ys none (some at')
            have l2 := cutV_length ys (some (at' + 1)) none
            walk_at "go"
            refine add_t (f2.t g1) (sqT g2) (by simp only [List.length_cons, List.length_nil]; omega) fun s3'' G3 f3 g3 => ?_
            walk_at "go"
            refine ix_t ((f1.trans (f2.trans f3)).t hw7) (at_int r0 hrx) ?_
            walk_at "go"
            refine sl_t ((f1.trans (f2.trans f3)).t hc7) fun s4'' G4 f4 g4 => ?_
            walk_at "go"
            refine add_t (f4.t g3) g4 (by simp only [List.length_append, List.length_cons, List.length_nil]; omega) fun s5'' G5 f5 g5 => ?_
            walk_at "go"
            refine hN _ _ ⟨_, _, _, _, rfl, (q4.trans d7).trans (DrS.of d7.dr (f1.trans (f2.trans (f3.trans (f4.trans f5))))), RowA.tup g5 ?_ ?_ ?_⟩
            · simp only [List.length_append, List.length_cons, List.length_nil]
              rw [Nat.pow_succ]
              omega
            · rw [Nat.pow_succ]
              omega
            · intro y hy
              have cm : ∀ (lo hi : Option Int), y ∈ cutV ys lo hi → y ∈ ys := fun lo hi hm => List.mem_of_mem_drop (List.mem_of_mem_take hm)
              rcases List.mem_append.mp hy with hy | hy
              · rcases List.mem_append.mp hy with hy | hy
                · exact hfl y (cm _ _ hy)
                · rw [List.mem_singleton.mp hy]
                  exact hgv
              · exact hfl y (cm _ _ hy)
          · walk_at "go"
            exact hN _ _ ⟨_, _, _, _, rfl, q4, hrw0.dr d3.dr q4⟩
      · obtain ⟨rw, y4', y7', y8', rfl, d4, hrw⟩ := hp
        walk_at "go"
        have d5 : DrS h pc Hc H' := d3.trans d4
        have hwA := (dc.dr.nl d5.bt).t hws
        refine sl_t hwA fun t1 G1 f1 g1 => ?_
        walk_at "go"
        refine al_t (sz1000 (by show 1 ≤ 1000; decide)) fun t2 G2 m2 f2 g2 _ => ?_
        have l1 := cutV_length ws none (some r)
        walk_at "go"
        refine add_t (f2.t g1) (sqT g2) (by simp only [List.length_cons, List.length_nil]; omega) fun t3 G3 f3 g3 => ?_
        walk_at "go"
        refine al_l (sz1000 (by show 3 ≤ 1000; decide)) fun t4 G4 m4 f4 g4 _ => ?_
        have f04 := f1.trans (f2.trans (f3.trans f4))
        walk_at "go"
        refine ⟨h, pc, t4, _, rfl, d5.dr.same f04, by show 0 < 3; decide, by show 3 ≤ 1000; decide, .inr ⟨g4, (d5.dr.same (f1.trans (f2.trans f3))).not m4⟩, fun k ev G5 hk q5 => ?_⟩
        obtain ⟨e, rfl, ce0, ce1⟩ : ∃ e : Int, ev = .int e ∧ 0 ≤ e ∧ e ≤ 1 := by
          have := List.mem_of_getElem? hk
          simp only [List.mem_cons, List.not_mem_nil, or_false] at this
          rcases this with rfl | rfl | rfl <;> exact ⟨_, rfl, by decide, by decide⟩
        have d6 : DrS h pc H' G5 := (DrS.of d5.dr f04).trans q5
        clear hk
        walk_at "go"
        refine sl_t ((d5.dr.nl d6.bt).t hwA) fun t6 G6 f6 g6 => ?_
        have l2 := cutV_length ws (some (r + e)) none
        walk_at "go"
        refine add_t (f6.t (((d5.dr.same f04).nl q5.bt).t (f4.t g3))) g6 (by simp only [List.length_append, List.length_cons, List.length_nil]; omega) fun t7 G7 f7 g7 => ?_
        have d7 : DrS h pc H' G7 := d6.trans (DrS.of d6.dr (f6.trans f7))
        have d8 : DrS h pc Hc G7 := d5.trans d7
        walk_at "go"
        refine ⟨_, _, _, _, _, _, rfl, dc.trans d8, ⟨t7, _, rfl, g7, ?_, ?_, ?_⟩, d8.get hoc hpo, fun x hx' => (hallc x hx').dr dc.dr d8⟩
        · simp only [List.length_append, List.length_cons, List.length_nil]
          omega
        · simp only [List.length_append, List.length_cons, List.length_nil]
          rw [Nat.pow_succ]
          omega
        · intro y hy
          have cm : ∀ (lo hi : Option Int), y ∈ cutV ws lo hi → RowA K (5 * 2 ^ (i + 1) - 1) G7 y := fun lo hi hm => ((hwr y (List.mem_of_mem_drop (List.mem_of_mem_take hm))).dr dc.dr d8).mono (by rw [Nat.pow_succ]; omega)
          rcases List.mem_append.mp hy with hy | hy
          · rcases List.mem_append.mp hy with hy | hy
            · exact cm _ _ hy
            · rw [List.mem_singleton.mp hy]
              exact hrw.dr d4.dr d7
          · exact cm _ _ hy
    · obtain ⟨va, y4, y5, y6, y7, y8, rfl, dc, ⟨b, ws, rfl, hws, w1, w8, hwr⟩, hoc, hallc⟩ := hp
      have wz : ws.length ≤ 40 := by
        have : c.toNat = 0 ∨ c.toNat = 1 ∨ c.toNat = 2 := by omega
        rcases this with e | e | e <;> rw [e] at w8 <;> omega
      walk_at "go"
      refine al_l (sz1000 (by show 1 ≤ 1000; decide)) fun t1 G1 m1 f1 g1 _ => ?_
      walk_at "go"
      refine rep_l g1 (by decide) (by decide) (by show 1 ≤ 1000; decide) fun t2 G2 m2 f2 g2 => ?_
      walk_at "go"
      refine list_s (.inr ((f1.trans f2).t hws)) fun t3 G3 m3 f3 g3 _ => ?_
      walk_at "go"
      refine al_t (sz1000 (by show 0 ≤ 1000; decide)) fun t4 G4 m4 f4 g4 _ => ?_
      walk_at "go"
      refine sl_t ((f1.trans (f2.trans (f3.trans f4))).t hws) fun t5 G5 f5 g5 => ?_
      walk_at "go"
      have hne : cutV ws none (some 1) ≠ [] := by
        unfold cutV
        rw [HT.sIx_none, show HT.sIx ws.length ws.length (some 1) = min 1 ws.length from HT.sIx_nat _ _ 1]
        cases ws with
        | nil => exact absurd w1 (by decide)
        | cons x r =>
          rw [show min 1 (x :: r).length = 1 by rw [List.length_cons]; omega]
          exact fun z => by cases z
      have l1 := cutV_length ws none (some 1)
      refine rep_t g5 hne (by decide) (by decide) (by omega) fun t6 G6 m6 f6 g6 => ?_
      walk_at "go"
      refine al_l (sz1000 (by show 4 ≤ 1000; decide)) fun t7 G7 m7 f7 g7 _ => ?_
      have hrep : (List.replicate (Int.toNat 9) [V.ref b]).flatten.length ≤ 9 := by
        show (List.replicate 9 [V.ref b]).flatten.length ≤ 9
        rw [PyProof.Rows.lm_len_rep_flat]
        simp
      refine add_l ((f3.trans (f4.trans (f5.trans (f6.trans f7)))) _ _ g2) g7 (by simp only [List.length_cons, List.length_nil]; omega) fun t8 G8 m8 f8 g8 => ?_
      have f07 := f1.trans (f2.trans (f3.trans (f4.trans (f5.trans (f6.trans f7)))))
      have f08 := f07.trans f8
      walk_at "go"
      refine ⟨h, pc, t8, _, rfl, dc.dr.same f08, by simp only [List.length_append, List.length_cons, List.length_nil]; omega, by simp only [List.length_append, List.length_cons, List.length_nil]; omega, .inr ⟨g8, (dc.dr.same f07).not m8⟩, fun k wv G9 hk q9 => ?_⟩
      have d9 : DrS h pc Hc G9 := (DrS.of dc.dr f08).trans q9
      have fin : ∀ S, StAt K G8 wv S → Q wv G9 := fun S hS => q wv S G9 (dc.trans d9) (hS.dr (dc.dr.same f08) q9)
      rcases List.mem_append.mp (List.mem_of_getElem? hk) with hm | hm
      · obtain ⟨l, hl, hw⟩ := List.mem_flatten.mp hm
        rw [List.eq_of_mem_replicate hl] at hw
        rw [List.mem_singleton.mp hw] at fin ⊢
        obtain ⟨S, hS⟩ := st_of (K := K) (n := 5 * 2 ^ c.toNat - 1) (f08.t hws) (by omega) fun x hx' => (hwr x hx').same f08
        exact fin S hS
      · simp only [List.mem_cons, List.not_mem_nil, or_false] at hm
        rcases hm with rfl | rfl | rfl | rfl
        · exact fin none ⟨_, .lst ((f4.trans (f5.trans (f6.trans (f7.trans f8)))) _ _ g3), kb_lt⟩
        · exact fin none ⟨_, .non, kb_nt⟩
        · obtain ⟨S, hS⟩ := st_of (K := K) (n := 0) ((f5.trans (f6.trans (f7.trans f8))).t (sqT g4)) (Nat.zero_le _) fun x hx' => absurd hx' List.not_mem_nil
          exact fin S hS
        · obtain ⟨S, hS⟩ := st_of (K := K) (n := 5 * 2 ^ c.toNat - 1) ((f7.trans f8).t (sqT g6)) (by
            rw [PyProof.Rows.lm_len_rep_flat]
            exact Nat.le_trans (Nat.mul_le_mul (show Int.toNat 9 ≤ 9 by decide) l1) (by omega)) fun x hx' => by
              obtain ⟨l, hl, hw⟩ := List.mem_flatten.mp hx'
              rw [List.eq_of_mem_replicate hl] at hw
              exact (hwr x (List.mem_of_mem_drop (List.mem_of_mem_take hw))).same f08
          exact fin S hS
/-- a property's getter -/
def spGet (C : Addr) (f : Str) : Sp := fun vs H Q _ => ∃ a dx fs v, vs = [.ref a] ∧ H a = some (.ins C dx fs) ∧ fs.lookup f = some v ∧ Q v H
theorem ok_Machine_steps (T : TxtP P K mg) : FnOk P w K mg base CX0 1 T.a_Machine_steps T.fd_Machine_steps ["self"] (spGet T.C_Machine "_steps") := by
  refine T.F_Machine_steps.ok sc_Machine_steps (fun vs H Q E h => ?_) (fun cdv A outer s H vs Q E hr h => ?_)
  · obtain ⟨a, dx, fs, v, rfl, _⟩ := h
    rfl
  · obtain ⟨a, dx, fs, v, rfl, ha, hl, q⟩ := h
    refine ⟨_, (pss_one (ps_ret (pe_fld (pv 0) rfl))), ?_⟩
    exact ⟨.ref a, rfl, a, T.C_Machine, dx, fs, v, rfl, ha, T.c_Machine, T.n_Machine__steps, hl, q⟩
theorem ok_Machine_good (T : TxtP P K mg) : FnOk P w K mg base CX0 1 T.a_Machine_good T.fd_Machine_good ["self"] (spGet T.C_Machine "_good") := by
  refine T.F_Machine_good.ok sc_Machine_good (fun vs H Q E h => ?_) (fun cdv A outer s H vs Q E hr h => ?_)
  · obtain ⟨a, dx, fs, v, rfl, _⟩ := h
    rfl
  · obtain ⟨a, dx, fs, v, rfl, ha, hl, q⟩ := h
    refine ⟨_, (pss_one (ps_ret (pe_fld (pv 0) rfl))), ?_⟩
    exact ⟨.ref a, rfl, a, T.C_Machine, dx, fs, v, rfl, ha, T.c_Machine, T.n_Machine__good, hl, q⟩
/-! ### accepted steps as rows of ints -/
/-- rows that are steps of a machine of L letters -/
def OkS (L : Nat) (rows : List (List Int)) : Prop := 1 ≤ rows.length ∧ rows.length ≤ 8 ∧ 1 ≤ L ∧ L ≤ 3 ∧ ∀ r ∈ rows, r.length = L ∧ ∀ z ∈ r, 0 ≤ z ∧ z < (rows.length : Int)
theorem leads_ok {ns : List Int} {n : Int} {L : Nat} (hl : ns.length = L) (l1 : 1 ≤ L) (l3 : L ≤ 3) (h : ∀ z ∈ ns, 0 ≤ z ∧ z < n) : leadsV (ns.map V.int) n = true := by
  unfold leadsV
  rw [List.length_map, decide_eq_true (p := 1 ≤ ns.length) (by omega), decide_eq_true (p := ns.length ≤ 3) (by omega), below_all h]
  rfl
def stOf (rows : List (List Int)) : Option (List (Option (List V))) := some (rows.map fun r => some (r.map V.int))
theorem below_ints {xs : List V} {n : Int} (h : (xs.all fun x => below x n) = true) : ∃ ns : List Int, xs = ns.map V.int ∧ ∀ z ∈ ns, 0 ≤ z ∧ z < n := by
  induction xs with
  | nil => exact ⟨[], rfl, fun z hz => absurd hz List.not_mem_nil⟩
  | cons x xs ih =>
    rw [List.all_cons, Bool.and_eq_true] at h
    obtain ⟨i, rfl, i0, i1⟩ := below_is h.1
    obtain ⟨ns, rfl, hn⟩ := ih h.2
    refine ⟨i :: ns, rfl, fun z hz => ?_⟩
    rcases List.mem_cons.mp hz with rfl | hz
    · exact ⟨i0, i1⟩
    · exact hn z hz
theorem rowBad_ints {n L : Nat} {I : Option (List V)} (h : rowBad n L I = false) : ∃ ns : List Int, I = some (ns.map V.int) ∧ ns.length = L ∧ 1 ≤ L ∧ L ≤ 3 ∧ ∀ z ∈ ns, 0 ≤ z ∧ z < (n : Int) := by
  cases I with
  | none => cases h
  | some xs =>
    have h' : (!leadsV xs (n : Int) || !decide (xs.length = L)) = false := h
    rw [Bool.or_eq_false_iff, Bool.not_eq_false', Bool.not_eq_false'] at h'
    obtain ⟨h1, h2⟩ := h'
    have hL := of_decide_eq_true h2
    unfold leadsV at h1
    rw [Bool.and_eq_true, Bool.and_eq_true] at h1
    obtain ⟨ns, rfl, hn⟩ := below_ints h1.2
    rw [List.length_map] at hL
    have a1 := of_decide_eq_true h1.1.1
    have a2 := of_decide_eq_true h1.1.2
    rw [List.length_map] at a1 a2
    exact ⟨ns, rfl, hL, by omega, by omega, hn⟩
theorem rows_of : ∀ {n L : Nat} (its : List (Option (List V))), (∀ I ∈ its, rowBad n L I = false) → ∃ rows : List (List Int), its = rows.map (fun r => some (r.map V.int)) ∧ ∀ r ∈ rows, r.length = L ∧ 1 ≤ L ∧ L ≤ 3 ∧ ∀ z ∈ r, 0 ≤ z ∧ z < (n : Int)
  | n, L, [], _ => ⟨[], rfl, fun r hr => absurd hr List.not_mem_nil⟩
  | n, L, I :: its, h => by
    obtain ⟨ns, rfl, h1, h2, h3, h4⟩ := rowBad_ints (h I List.mem_cons_self)
    obtain ⟨rows, rfl, hr⟩ := rows_of its fun J hJ => h J (List.mem_cons_of_mem _ hJ)
    refine ⟨ns :: rows, rfl, fun r hr' => ?_⟩
    rcases List.mem_cons.mp hr' with rfl | hr'
    · exact ⟨h1, h2, h3, h4⟩
    · exact hr r hr'
theorem ok_rows {its : List (Option (List V))} (ok : OkSt (some its)) : ∃ (rows : List (List Int)) (L : Nat), some its = stOf rows ∧ OkS L rows := by
  obtain ⟨n1, n8, h⟩ := ok
  obtain ⟨rows, e, hr⟩ := rows_of its h
  have hl : its.length = rows.length := by
    rw [e, List.length_map]
  cases rows with
  | nil =>
    rw [hl] at n1
    cases n1
  | cons r0 rs =>
    obtain ⟨h1, h2, h3, h4⟩ := hr r0 List.mem_cons_self
    refine ⟨r0 :: rs, _, by rw [e]; rfl, by rw [← hl]; exact n1, by rw [← hl]; exact n8, h2, h3, fun r hr' => ⟨(hr r hr').1, fun z hz => ?_⟩⟩
    rw [← hl]
    exact (hr r hr').2.2.2 z hz
theorem ok_stOf {L : Nat} {rows : List (List Int)} (o : OkS L rows) : OkSt (stOf rows) := by
  obtain ⟨n1, n8, l1, l3, h⟩ := o
  refine ⟨by rw [List.length_map]; exact n1, by rw [List.length_map]; exact n8, fun I hI => ?_⟩
  obtain ⟨r, hr, rfl⟩ := List.mem_map.mp hI
  have hL : ilen ((rows.map fun r => some (r.map V.int)).head?.getD none) = L := by
    cases rows with
    | nil => cases n1
    | cons r0 rs =>
      show (r0.map V.int).length = L
      rw [List.length_map]
      exact (h r0 List.mem_cons_self).1
  show (!leadsV (r.map V.int) _ || !decide ((r.map V.int).length = _)) = false
  rw [hL, List.length_map, List.length_map, decide_eq_true (h r hr).1, leads_ok (h r hr).1 l1 l3 (h r hr).2]
  rfl
theorem stOf_rows {K : PySem.W.Frag} {H : Hp} {v : V} {rows : List (List Int)} (h : StAt K H v (stOf rows)) : RowsT K H v rows := by
  obtain ⟨a, xs, rfl, hx, hl, _, hp⟩ := h
  refine ⟨a, xs, rfl, hx, by rw [hl, List.length_map], fun i x r h1 h2 => ?_⟩
  obtain ⟨b, e, hb, _, _⟩ := hp i x (some (r.map V.int)) h1 (by rw [List.getElem?_map, h2]; rfl)
  exact ⟨b, e, hb⟩
theorem rows_stOf {K : PySem.W.Frag} {H : Hp} {v : V} {rows : List (List Int)} {L : Nat} (h : RowsT K H v rows) (o : OkS L rows) : StAt K H v (stOf rows) := by
  obtain ⟨a, xs, rfl, hx, hl, hp⟩ := h
  refine ⟨a, xs, rfl, hx, by rw [hl, List.length_map], by have := o.2.1; omega, fun i x I h1 h2 => ?_⟩
  rw [List.getElem?_map] at h2
  obtain ⟨r, hr, rfl⟩ := Option.map_eq_some_iff.mp h2
  obtain ⟨b, e, hb⟩ := hp i x r h1 hr
  refine ⟨b, e, hb, ?_, fun y hy => ?_⟩
  · have h3 := (o.2.2.2.2 r (List.mem_of_getElem? hr)).1
    have h4 := o.2.2.2.1
    rw [List.length_map]
    omega
  · obtain ⟨z, _, rfl⟩ := List.mem_map.mp hy
    rfl
theorem good_ints {n : Int} {G : Option (List V)} (h : goodV n G = true) : ∃ gs : List Int, G = some (gs.map V.int) ∧ ∀ z ∈ gs, 0 ≤ z ∧ z < n := by
  cases G with
  | none => cases h
  | some xs =>
    have h' : ((xs.all fun x => below x n) && ascV xs) = true := h
    rw [Bool.and_eq_true] at h'
    obtain ⟨gs, rfl, hg⟩ := below_ints h'.1
    exact ⟨gs, rfl, hg⟩
theorem it_ints {K : PySem.W.Frag} {H : Hp} {v : V} {gs : List Int} (h : ItAt K H v (some (gs.map V.int))) : IntsT K H v gs := by
  obtain ⟨a, e, hh, _⟩ := h
  exact ⟨a, e, hh⟩
theorem asc_drop {xs : List V} (h : ascV xs = true) : ascV (xs.drop 1) = true := by
  refine falls_asc fun i hi => ?_
  rw [List.length_drop] at hi
  have := asc_falls h (i := i + 1) (by omega)
  unfold falls at this ⊢
  rw [List.getElem?_drop, List.getElem?_drop, Nat.add_comm 1 i, show 1 + (i + 1) = i + 1 + 1 by omega]
  exact this
theorem good_drop {n : Int} {gs : List V} (h : goodV n (some gs) = true) : goodV n (some (gs.drop 1)) = true := by
  have h' : ((gs.all fun x => below x n) && ascV gs) = true := h
  rw [Bool.and_eq_true] at h'
  show (((gs.drop 1).all fun x => below x n) && ascV (gs.drop 1)) = true
  rw [asc_drop h'.2, Bool.and_true]
  exact List.all_eq_true.mpr fun x hx => List.all_eq_true.mp h'.1 x (List.mem_of_mem_drop hx)
theorem bad_not_ok {S : Option (List (Option (List V)))} {r : Option Nat} (b : BadAt S r) (o : OkSt S) : False := by
  cases S with
  | none => exact o
  | some its =>
    obtain ⟨n1, n8, h⟩ := o
    cases r with
    | none => exact b ⟨n1, n8⟩
    | some i =>
      obtain ⟨_, _, ⟨I, hI, hb⟩, _⟩ := b
      rw [h I (List.mem_of_getElem? hI)] at hb
      cases hb
theorem bad_unique {S : Option (List (Option (List V)))} {r r' : Option Nat} (b : BadAt S r) (b' : BadAt S r') : r = r' := by
  cases S with
  | none =>
    have e1 : r = none := b
    have e2 : r' = none := b'
    rw [e1, e2]
  | some its =>
    cases r with
    | none =>
      cases r' with
      | none => rfl
      | some j => exact absurd ⟨b'.1, b'.2.1⟩ b
    | some i =>
      cases r' with
      | none => exact absurd ⟨b.1, b.2.1⟩ b'
      | some j =>
        obtain ⟨_, _, ⟨I, hI, hb⟩, h1⟩ := b
        obtain ⟨_, _, ⟨J, hJ, hc⟩, h2⟩ := b'
        rcases Nat.lt_trichotomy i j with h | h | h
        · rw [h2 i I h hI] at hb
          cases hb
        · rw [h]
        · rw [h1 j J h hJ] at hc
          cases hc
theorem lenO_t {K : PySem.W.Frag} {r' : List V → Hp → VK → Prop} {H : Hp} {Q : VK} {p : Addr} {xs : List V} (h : SqT K H p xs) (q : Q (.int xs.length) H) : cOr (rLenU K) r' [.ref p] H Q := .inl (len_t h q)
theorem rev_t {K : PySem.W.Frag} {i : Nat} {σ : L2.St} {H : Hp} {Q : VK} {a : Addr} {xs : List V} (hv : σ[i]? = some (some (.ref a))) (h : SqT K H a xs) (q : ∀ p H', H p = none → Same H H' → H' p = some (.tup xs.reverse) → Q (.ref p) H') : tRevT K (tVar i) σ H Q :=
  ⟨.ref a, hv, a, xs, rfl, h, fun p hp => q p _ hp (same_upd hp) upd_same⟩
theorem sts_of {K : PySem.W.Frag} {H : Hp} {v : V} {L : Nat} {rows : List (List Int)} {gs : List Int} (h : RowsT K H v rows) (o : OkM L rows gs) : StsA K 8 4 H v := by
  obtain ⟨a, xs, rfl, hx, hl, hp⟩ := h
  have n1 := o.n1
  have n8 := o.n8
  refine ⟨a, xs, rfl, hx, by omega, by omega, fun x hx' => ?_⟩
  obtain ⟨i, hi⟩ := List.mem_iff_getElem?.mp hx'
  have hlt := (List.getElem?_eq_some_iff.mp hi).1
  have hr : rows[i]? = some (rows[i]'(by omega)) := List.getElem?_eq_getElem (by omega)
  obtain ⟨b, rfl, hb⟩ := hp i x _ hi hr
  have h3 := (o.row _ (List.mem_of_getElem? hr)).1
  have h4 := o.l3
  refine RowA.tup hb (by rw [List.length_map]; omega) (by decide) fun y hy => ?_
  obtain ⟨z, _, rfl⟩ := List.mem_map.mp hy
  rfl
theorem sm_told {K : PySem.W.Frag} {H : Hp} {p p' : Addr} {xs : List V} (h1 : H p = some (.lst xs)) (h2 : H p' = some (.lst xs)) (hl : xs.length ≤ 1000) (hf : ∀ x ∈ xs, Fl x = true) : Sm K H 3 (.ref p) (.ref p') := by
  refine .lst h1 h2 rfl hl fun i x y hx hy => ?_
  rw [hx] at hy
  cases hy
  have hfx := hf x (List.mem_of_getElem? hx)
  cases x with
  | non => exact .non
  | bl b => exact .bl b
  | int i => exact .int i
  | str z => exact .str z
  | _ => cases hfx
theorem fl_told (r : Option Nat) : ∀ x ∈ toldS r, Fl x = true := by
  intro x hx
  rcases List.mem_cons.mp hx with rfl | hx
  · decide +kernel
  · rw [List.mem_singleton.mp hx]
    cases r with
    | none => rfl
    | some i => rfl
theorem fl_toldG : ∀ x ∈ toldG, Fl x = true := by
  intro x hx
  rw [List.mem_singleton.mp hx]
  decide +kernel
/-! ### a machine found, held against others -/
theorem cut1 (xs : List V) : cutV xs (some 1) none = xs.drop 1 := by
  unfold cutV
  rw [show HT.sIx xs.length 0 (some 1) = min 1 xs.length from HT.sIx_nat _ 0 1, HT.sIx_none]
  cases xs with
  | nil => rfl
  | cons x r =>
    rw [show min 1 (x :: r).length = 1 by rw [List.length_cons]; omega]
    show List.take (_ - 1) r = r
    exact List.take_of_length_le (by rw [List.length_cons]; omega)
theorem at_last {xs : List V} {x : V} (h : xs[xs.length - 1]? = some x) : atI xs (-1) = some x := by
  have hl := (List.getElem?_eq_some_iff.mp h).1
  unfold atI ixN
  rw [if_neg (by decide), if_pos (by omega), show ((-1 : Int) + (xs.length : Int)).toNat = xs.length - 1 by omega]
  exact h
theorem cutm1 {xs : List V} (h : 1 ≤ xs.length) : cutV xs none (some (-1)) = xs.take (xs.length - 1) := by
  unfold cutV
  rw [HT.sIx_none]
  have e : HT.sIx xs.length xs.length (some (-1)) = xs.length - 1 := by
    unfold HT.sIx
    simp
    omega
  rw [e]
  rfl
/-- the steps with another last row -/
theorem rows_last {K : PySem.W.Frag} {H : Hp} {t u : Addr} {wxs : List V} {rows : List (List Int)} {r : List Int} (h : SqT K H t (wxs.take (wxs.length - 1) ++ [V.ref u])) (hu : SqT K H u (r.map V.int)) (hl : wxs.length = rows.length) (h1 : 1 ≤ rows.length)
    (hp : ∀ (i : Nat) (x : V) (r : List Int), wxs[i]? = some x → rows[i]? = some r → IntsT K H x r) : RowsT K H (.ref t) (rows.take (rows.length - 1) ++ [r]) := by
  refine ⟨t, _, rfl, h, by simp only [List.length_append, List.length_take, List.length_cons, List.length_nil]; omega, fun i x r' e1 e2 => ?_⟩
  by_cases hi : i < rows.length - 1
  · rw [List.getElem?_append_left (by rw [List.length_take]; omega), List.getElem?_take_of_lt (by omega)] at e1 e2
    exact hp i x r' e1 e2
  · rw [List.getElem?_append_right (by rw [List.length_take]; omega)] at e1 e2
    have k1 : i - (List.take (wxs.length - 1) wxs).length = 0 := by
      have := (List.getElem?_eq_some_iff.mp e1).1
      simp only [List.length_cons, List.length_nil] at this
      omega
    have k2 : i - (List.take (rows.length - 1) rows).length = 0 := by
      have := (List.getElem?_eq_some_iff.mp e2).1
      simp only [List.length_cons, List.length_nil] at this
      omega
    rw [k1] at e1
    rw [k2] at e2
    cases e1
    cases e2
    exact ⟨u, rfl, hu⟩
theorem ok_last {L : Nat} {rows : List (List Int)} {r : List Int} (o : OkS L rows) (hl : r.length = L) (hz : ∀ z ∈ r, 0 ≤ z ∧ z < (rows.length : Int)) : OkS L (rows.take (rows.length - 1) ++ [r]) := by
  obtain ⟨n1, n8, l1, l3, h⟩ := o
  have e : (rows.take (rows.length - 1) ++ [r]).length = rows.length := by
    simp only [List.length_append, List.length_take, List.length_cons, List.length_nil]
    omega
  refine ⟨by omega, by omega, l1, l3, fun r' hr' => ?_⟩
  rw [e]
  rcases List.mem_append.mp hr' with hr' | hr'
  · exact h r' (List.mem_of_mem_take hr')
  · rw [List.mem_singleton.mp hr']
    exact ⟨hl, hz⟩
theorem ne_last {rows : List (List Int)} {r lr : List Int} (hlr : rows[rows.length - 1]? = some lr) (hne : lr ≠ r) : rows ≠ rows.take (rows.length - 1) ++ [r] := by
  intro e
  have hl := (List.getElem?_eq_some_iff.mp hlr).1
  have e2 : (rows.take (rows.length - 1) ++ [r])[rows.length - 1]? = some r := by
    rw [List.getElem?_append_right (by rw [List.length_take]; omega), List.length_take, show rows.length - 1 - min (rows.length - 1) rows.length = 0 by omega]
    rfl
  rw [← e, hlr] at e2
  exact hne (Option.some.inj e2)
section
variable {H : Hp} {x dx y dy p : Addr} {v1 v2 u1 u2 : V} {r1 r2 : List (List Int)} {g1 g2 : List Int} {b : Bool} {Q : VK} {xs : List V}
theorem nf_own {K : PySem.W.Frag} (C : Addr) : PySem.W.notFirst K C (.ref C) = true := by simp [PySem.W.notFirst]
theorem eqo_m (T : TxtP P K mg) (hx : H x = some (.ins T.C_Machine dx (mflds v1 v2))) (h1 : RowsT K H v1 r1) (h2 : IntsT K H v2 g1) (hy : H y = some (.ins T.C_Machine dy (mflds u1 u2))) (k1 : RowsT K H u1 r2) (k2 : IntsT K H u2 g2)
    (e : (decide (r1 = r2) && decide (g1 = g2)) = b) (q : Q (.bl b) H) : rOr (rEqU K) (rEqOwn K T.C_Machine (spMachEq T.C_Machine K) E0) (.ref x) (.ref y) H Q := by
  refine .inr ⟨x, dx, _, _, rfl, hx, ty_mach T hy, nf_own _, x, dx, v1, v2, .ref y, r1, g1, rfl, hx, h1, h2, .inl ⟨r2, g2, ⟨y, dy, u1, u2, rfl, hy, k1, k2⟩, ?_⟩⟩
  rw [e]
  exact ⟨_, rfl, q⟩
theorem eqo_t (T : TxtP P K mg) (hx : H x = some (.ins T.C_Machine dx (mflds v1 v2))) (h1 : RowsT K H v1 r1) (h2 : IntsT K H v2 g1) (hp : SqT K H p xs) (q : Q (.bl false) H) : rOr (rEqU K) (rEqOwn K T.C_Machine (spMachEq T.C_Machine K) E0) (.ref x) (.ref p) H Q := by
  refine .inr ⟨x, dx, _, _, rfl, hx, tyx_t hp, ?_, x, dx, v1, v2, .ref p, r1, g1, rfl, hx, h1, h2, .inr ⟨p, xs, rfl, hp, _, rfl, q⟩⟩
  unfold PySem.W.notFirst
  rw [T.sb_tuple_Machine]
  rfl
theorem lenO_m {C : Addr} {K : PySem.W.Frag} (hx : H x = some (.ins C dx (mflds v1 v2))) (h1 : RowsT K H v1 r1) (hl : r1.length ≤ 8) (q : Q (.int (r1.length : Nat)) H) : cOr (rLenU K) (rLenOwn C (spMachLen C K) E0) [.ref x] H Q :=
  .inr ⟨x, dx, _, rfl, hx, x, dx, v1, v2, r1, rfl, hx, h1, _, rfl, ⟨by omega, by omega⟩, q⟩
theorem ne_ints {K : PySem.W.Frag} {v u : V} {a b : List Int} (hv : IntsT K H v a) (hu : IntsT K H u b) (q : Q (.bl (!decide (a = b))) H) : rNeU K v u H Q := by
  refine .inr ⟨_, _, hv.dp, hu.dp, sh_ints a, sh_ints b, ?_⟩
  rw [eqv_ints]
  exact q
theorem sm_ints {K : PySem.W.Frag} {v : V} {ns : List Int} {n : Nat} (h : IntsT K H v ns) (hl : ns.length ≤ 1000) : Sm K H (n + 1) v v := by
  obtain ⟨a, rfl, h⟩ := h
  refine .tup h h rfl (by rw [List.length_map]; exact hl) fun i x y hx hy => ?_
  rw [hx] at hy
  cases hy
  obtain ⟨z, _, rfl⟩ := List.mem_map.mp (List.mem_of_getElem? hx)
  exact .int z
theorem sm_rows {K : PySem.W.Frag} {v : V} {rows : List (List Int)} {n : Nat} (h : RowsT K H v rows) (hl : rows.length ≤ 1000) (hr : ∀ r ∈ rows, r.length ≤ 1000) : Sm K H (n + 2) v v := by
  obtain ⟨a, xs, rfl, h, hlen, hp⟩ := h
  refine .tup h h rfl (by omega) fun i x y hx hy => ?_
  rw [hx] at hy
  cases hy
  have hlt := (List.getElem?_eq_some_iff.mp hx).1
  have e : rows[i]? = some (rows[i]'(by omega)) := List.getElem?_eq_getElem (by omega)
  exact sm_ints (hp i x _ hx e) (hr _ (List.mem_of_getElem? e))
theorem sm_parts {K : PySem.W.Frag} {v vg : V} {rows : List (List Int)} {gs : List Int} {L : Nat} {p p' : Addr} {k : Int} (h1 : H p = some (.lst [v, vg, .int k])) (h2 : H p' = some (.lst [v, vg, .int k])) (h : RowsT K H v rows) (o : OkS L rows) (hg : IntsT K H vg gs) (hl : gs.length ≤ 1000) : Sm K H 3 (.ref p) (.ref p') := by
  refine .lst h1 h2 rfl (by show 3 ≤ 1000; decide) fun i x y hx hy => ?_
  rw [hx] at hy
  cases hy
  have hm := List.mem_of_getElem? hx
  simp only [List.mem_cons, List.not_mem_nil, or_false] at hm
  have n8 := o.2.1
  have l3 := o.2.2.2.1
  rcases hm with rfl | rfl | rfl
  · exact sm_rows h (by omega) fun r hr => by
      have := (o.2.2.2.2 r hr).1
      omega
  · exact sm_ints hg hl
  · exact .int _
end
/-! ### the law: six drawn machines, some of them spoilt -/
def spLaw (K : PySem.W.Frag) : Sp := fun vs H Q _ => ∃ (a : Addr) (ns : List Int), vs = [.ref a] ∧ SqL K H a (ns.map V.int) ∧ ns.length ≤ 63 ∧ ∀ H', Q (.bl true) H'
theorem ok_law (T : TxtP P K mg) : FnOk P w K mg base CX0 8 T.a_law T.fd_law ["_law_script"] (spLaw K) := by
  refine T.F_law.ok sc_law (fun vs H Q E h => ?_) (fun cdv A outer s H vs Q E hr h => ?_)
  · obtain ⟨a, ns, rfl, _⟩ := h
    rfl
  · obtain ⟨a, ns, rfl, hS, hlen, q⟩ := h
    refine ⟨_, (pss_cons (ps_set (i := 1) sc_law.nd rfl (Or.inl rfl) (pe_call (ok__law_mix T) (hr.mono (by decide)) (by rfl) T.g__law_mix T.F__law_mix.kp T.b__law_mix .nil pass0 (pa_cons (pv 0) (pa_cons pe_int pa_nil))))
 (pss_cons (ps_for PassesOwn.never rfl (pi_range1 rfl T.z_range (pa_cons pe_int pa_nil)) (pg_name (i := 2) sc_law.nd rfl (Or.inl rfl))
 (pss_cons (ps_asg (pe_call (ok__law_parts T) (hr.mono (by decide)) (by rfl) T.g__law_parts T.F__law_parts.kp T.b__law_parts .nil pass0 (pa_cons (pv 1) (pa_cons (pe_op (r := rAddU K) op_addU pe_int (pe_call (ok__law_next T) (hr.mono (by decide)) (by rfl) T.g__law_next T.F__law_next.kp T.b__law_next .nil pass0 (pa_cons (pv 1) (pa_cons pe_int pa_nil)))) pa_nil))) (pg_tup rfl (pgs_cons (pg_name (i := 3) sc_law.nd rfl (Or.inl rfl)) (pgs_cons (pg_name (i := 4) sc_law.nd rfl (Or.inl rfl)) pgs_nil))))
 (pss_cons (ps_set (i := 5) sc_law.nd rfl (Or.inl rfl) (pe_callB (call_or (show CallR _ (.builtin "len") (rLenU K) from call_lenU) (call_lenOwn (C := T.C_Machine) (ok_Machine_len T) (hr.mono (by decide)) T.m_Machine_len.at_ T.m_Machine_len.fn T.b_Machine_len pass0)) (by rfl) T.z_len (by decide +kernel) (pa_cons (pv 3) pa_nil)))
 (pss_cons (ps_set (i := 6) sc_law.nd rfl (Or.inl rfl) (pe_lst (pa_cons (pe_revT (pv 4)) (pa_cons (pe_op (r := rAddU K) op_addU (pv 4) (pe_slice (r := rSlU K) sl_U (pv 4) po_none (po_some pe_int))) (pa_cons (pe_callTy (r := rListU K) call_listU (by rfl) T.z_list (by decide +kernel) (pa_cons (pv 4) pa_nil)) (pa_cons pe_non (pa_cons (pe_tup (pa_cons (pv 5) pa_nil)) (pa_cons (pe_tup (pa_cons (pe_un un_neg pe_int) pa_nil)) (pa_cons (pe_tup (pa_cons pe_bl pa_nil)) (pa_cons pe_int (pa_cons (pe_op (r := rAddU K) op_addU (pv 4) (pe_tup (pa_cons (pv 5) pa_nil))) (pa_cons (pe_tup (pa_cons pe_str pa_nil)) pa_nil))))))))))))
 (pss_cons (ps_par (i := 3) (j := 4) (by rfl) sc_law.nd rfl rfl (by decide) rfl rfl (pa_cons (pe_call (ok__law_spoilt T) (hr.mono (by decide)) (by rfl) T.g__law_spoilt T.F__law_spoilt.kp T.b__law_spoilt .nil pass0 (pa_cons (pv 1) (pa_cons (pv 3) pa_nil))) (pa_cons (pe_call (ok__law_pick T) (hr.mono (by decide)) (by rfl) T.g__law_pick T.F__law_pick.kp T.b__law_pick .nil pass0 (pa_cons (pv 1) (pa_cons (pe_op (r := rAddU K) op_addU (pe_op (op_or op_mulU op_repT) (pe_lst (pa_cons (pv 4) pa_nil)) pe_int) (pv 6)) pa_nil))) pa_nil)) (by rfl))
 (pss_cons (ps_par (i := 7) (j := 8) (by rfl) sc_law.nd rfl rfl (by decide) rfl rfl (pa_cons (pe_call (ok__law_tried T) (hr.mono (by decide)) (by rfl) T.g__law_tried T.F__law_tried.kp T.b__law_tried .nil passL (pa_cons (pv 3) (pa_cons (pv 4) pa_nil))) (pa_cons (pe_call (ok__law_fault T) (hr.mono (by decide)) (by rfl) T.g__law_fault T.F__law_fault.kp T.b__law_fault .nil pass0 (pa_cons (pv 3) (pa_cons (pv 4) pa_nil))) pa_nil)) (by rfl))
 (pss_one (ps_if (pt_cmpR op_notN (pv 8) pe_non (nomark _)) (pss_one (ps_if (pt_not (pt_val (pe_call (ok__law_alike T) (hr.mono (by decide)) (by rfl) T.g__law_alike T.F__law_alike.kp T.b__law_alike .nil pass0 (pa_cons (pv 7) (pa_cons (pv 8) pa_nil))))) (pss_one (ps_ret pe_bl)) pss_nil)) (pss_one (ps_if (PW.pt (pw_or (pt_not (pt_val (pe_callB (r := rIsi K) call_isi (by rfl) T.z_isinstance (by decide +kernel) (pa_cons (pv 7) (pa_cons (pe_glob (v := .ref T.C_Machine) (by rfl) T.g_Machine rfl) pa_nil))))) (pw_or (pt_not (pt_cmpR (op_or (op_eqU hr.units) (op_eqOwn (C := T.C_Machine) (ok_Machine_eq T) (hr.mono (by decide)) T.m_Machine_eq.at_ T.m_Machine_eq.fn T.b_Machine_eq pass0)) (pv 7) (pe_make T.m_Machine (ok_Machine_init T) (hr.mono (by decide)) (by rfl) T.g_Machine T.b_Machine_init .nil passL (pa_cons (pv 3) (pa_cons (pv 4) pa_nil))) (nomark _))) (pw_or1 (pt_cmpR (op_or (op_eqU hr.units) (op_eqOwn (C := T.C_Machine) (ok_Machine_eq T) (hr.mono (by decide)) T.m_Machine_eq.at_ T.m_Machine_eq.fn T.b_Machine_eq pass0)) (pv 7) (pe_tup (pa_cons (pv 3) (pa_cons (pv 4) pa_nil))) (nomark _)))))) (pss_one (ps_ret pe_bl)) (pss_one (ps_if (pt_not (pt_val (pe_call (ok__law_alike T) (hr.mono (by decide)) (by rfl) T.g__law_alike T.F__law_alike.kp T.b__law_alike .nil pass0 (pa_cons (pe_lst (pa_cons (pe_prop (pv 7) T.c_Machine T.p_Machine_steps (ok_Machine_steps T) (hr.mono (by decide)) T.b_Machine_steps .nil pass0 rfl) (pa_cons (pe_prop (pv 7) T.c_Machine T.p_Machine_good (ok_Machine_good T) (hr.mono (by decide)) T.b_Machine_good .nil pass0 rfl) (pa_cons (pe_callB (call_or (show CallR _ (.builtin "len") (rLenU K) from call_lenU) (call_lenOwn (C := T.C_Machine) (ok_Machine_len T) (hr.mono (by decide)) T.m_Machine_len.at_ T.m_Machine_len.fn T.b_Machine_len pass0)) (by rfl) T.z_len (by decide +kernel) (pa_cons (pv 7) pa_nil)) pa_nil)))) (pa_cons (pe_lst (pa_cons (pv 3) (pa_cons (pv 4) (pa_cons (pe_callB (call_or (show CallR _ (.builtin "len") (rLenU K) from call_lenU) (call_lenOwn (C := T.C_Machine) (ok_Machine_len T) (hr.mono (by decide)) T.m_Machine_len.at_ T.m_Machine_len.fn T.b_Machine_len pass0)) (by rfl) T.z_len (by decide +kernel) (pa_cons (pv 3) pa_nil)) pa_nil)))) pa_nil))))) (pss_one (ps_ret pe_bl)) (pss_one (ps_if (pt_cmpR (op_or (op_eqU hr.units) (op_eqOwn (C := T.C_Machine) (ok_Machine_eq T) (hr.mono (by decide)) T.m_Machine_eq.at_ T.m_Machine_eq.fn T.b_Machine_eq pass0)) (pv 7) (pe_make T.m_Machine (ok_Machine_init T) (hr.mono (by decide)) (by rfl) T.g_Machine T.b_Machine_init .nil passL (pa_cons (pv 3) (pa_cons (pe_ifExp (pt_cmpR (r := rNeU K) (op_neU hr.units) (pv 4) (pe_tup pa_nil) (nomark _)) (pe_slice (r := rSlU K) sl_U (pv 4) (po_some pe_int) po_none) (pe_tup (pa_cons pe_int pa_nil))) pa_nil))) (nomark _)) (pss_one (ps_ret pe_bl)) (pss_one (ps_if (pt_cmpR op_gt (pe_callB (call_or (show CallR _ (.builtin "len") (rLenU K) from call_lenU) (call_lenOwn (C := T.C_Machine) (ok_Machine_len T) (hr.mono (by decide)) T.m_Machine_len.at_ T.m_Machine_len.fn T.b_Machine_len pass0)) (by rfl) T.z_len (by decide +kernel) (pa_cons (pv 3) pa_nil)) pe_int (nomark _)) (pss_cons (ps_set (i := 9) sc_law.nd rfl (Or.inl rfl) (pe_op op_modN (pe_callTy call_intU (by rfl) T.z_int (by decide +kernel) (pa_cons (pe_op (r := rAddU K) op_addU (pe_ix (r := rIx K) ix_seq (pe_ix (r := rIx K) ix_seq (pv 3) (pe_un un_neg pe_int) (fun _ _ => rfl)) pe_int (fun _ _ => rfl)) pe_int) pa_nil)) (pe_callB (call_or (show CallR _ (.builtin "len") (rLenU K) from call_lenU) (call_lenOwn (C := T.C_Machine) (ok_Machine_len T) (hr.mono (by decide)) T.m_Machine_len.at_ T.m_Machine_len.fn T.b_Machine_len pass0)) (by rfl) T.z_len (by decide +kernel) (pa_cons (pv 3) pa_nil))))
 (pss_one (ps_if (pt_cmpR (op_or (op_eqU hr.units) (op_eqOwn (C := T.C_Machine) (ok_Machine_eq T) (hr.mono (by decide)) T.m_Machine_eq.at_ T.m_Machine_eq.fn T.b_Machine_eq pass0)) (pv 7) (pe_make T.m_Machine (ok_Machine_init T) (hr.mono (by decide)) (by rfl) T.g_Machine T.b_Machine_init .nil passL (pa_cons (pe_op (r := rAddU K) op_addU (pe_slice (r := rSlU K) sl_U (pv 3) po_none (po_some (pe_un un_neg pe_int))) (pe_tup (pa_cons (pe_op (r := rAddU K) op_addU (pe_tup (pa_cons (pv 9) pa_nil)) (pe_slice (r := rSlU K) sl_U (pe_ix (r := rIx K) ix_seq (pv 3) (pe_un un_neg pe_int) (fun _ _ => rfl)) (po_some pe_int) po_none)) pa_nil))) (pa_cons (pv 4) pa_nil))) (nomark _)) (pss_one (ps_ret pe_bl)) pss_nil))) pss_nil))))))))))))))))
 (pss_one (ps_ret pe_bl)))), ?_⟩
    refine st0 (σ' := [some _, none, none, none, none, none, none, none, none, none]) rfl ?_
    walk_at "go"
    refine ⟨a, ns, 1, rfl, hS, hlen, by decide, by decide, fun h pc H1 e1 n1 n2 D1 => ?_⟩
    walk_at "go"
    refine f_forR ?_
    walk_at "go"
    refine ⟨6, rfl, by decide, by decide, for_range (fun i σ H2 => ∃ y2 y3 y4 y5 y6 y7 y8 y9, σ = [some (.ref a), some (.ref h), y2, y3, y4, y5, y6, y7, y8, y9] ∧ Dr H2 h pc) ⟨_, _, _, _, _, _, _, _, rfl, D1⟩ (fun i σ H2 hi hp => ?_) (fun σ H2 hp => ?_)⟩
    · obtain ⟨y2, y3, y4, y5, y6, y7, y8, y9, rfl, D2⟩ := hp
      clear hS hlen e1 n1 n2 D1 hi
      walk_at "go"
      refine ⟨h, pc, 3, rfl, D2, by decide, by decide, fun l H3 l0 l1 q3 => ?_⟩
      walk_at "go"
      obtain ⟨L, hL⟩ : ∃ L : Nat, 1 + l = L := ⟨(1 + l).toNat, by omega⟩
      rw [hL]
      refine ⟨h, pc, L, rfl, q3.dr, by omega, by omega, fun p v vg rows gs H4 q4 hp hv hg hok => ?_⟩
      refine g_pair hp (σ' := [some (.ref a), some (.ref h), some (.int (0 + (i : Nat))), some v, some vg, y5, y6, y7, y8, y9]) rfl ?_
      have D4 := q4.dr
      have hgl := hok.gl
      have hsts := sts_of hv hok
      obtain ⟨sa, sx, rfl, hsx, hsl, _⟩ := id hv
      obtain ⟨ga, rfl, hga⟩ := id hg
      have hfl : ∀ y ∈ gs.map V.int, Fl y = true := fun y hy => by
        obtain ⟨z, _, rfl⟩ := List.mem_map.mp hy
        rfl
      have hgm : (gs.map V.int).length ≤ 8 := by
        rw [List.length_map]
        exact hgl
      generalize gs.map V.int = gv at hga hfl hgm
      clear q3 q4 hp hv hg hok hL l0 l1 D2 hgl
      walk_at "go"
      refine lenO_t hsx ?_
      walk_at "go"
      refine rev_t (by rfl) hga fun o1 G1 m1 f1 g1 => ?_
      walk_at "go"
      refine sl_t (f1.t hga) fun o2a G2 f2 g2 => ?_
      walk_at "go"
      have l2 := cutV_length gv none (some 1)
      refine add_t ((f1.trans f2).t hga) g2 (by omega) fun o2 G3 f3 g3 => ?_
      have f03 := f1.trans (f2.trans f3)
      walk_at "go"
      refine list_s (.inr (f03.t hga)) fun o3 G4 m4 f4 g4 _ => ?_
      walk_at "go"
      refine al_t (sz1000 (by show 1 ≤ 1000; decide)) fun o5 G5 m5 f5 g5 _ => ?_
      walk_at "go"
      refine ⟨1, rfl, ?_⟩
      walk_at "go"
      refine al_t (sz1000 (by show 1 ≤ 1000; decide)) fun o6 G6 m6 f6 g6 _ => ?_
      walk_at "go"
      refine al_t (sz1000 (by show 1 ≤ 1000; decide)) fun o7 G7 m7 f7 g7 _ => ?_
      walk_at "go"
      refine al_t (sz1000 (by show 1 ≤ 1000; decide)) fun o9a G8 m8 f8 g8 _ => ?_
      walk_at "go"
      have f08 := f03.trans (f4.trans (f5.trans (f6.trans (f7.trans f8))))
      refine add_t (f08.t hga) (sqT g8) (by simp only [List.length_cons, List.length_nil]; omega) fun o9 G9 f9 g9 => ?_
      walk_at "go"
      refine al_t (sz1000 (by show 1 ≤ 1000; decide)) fun o10 G10 m10 f10 g10 _ => ?_
      walk_at "go"
      refine al_l (sz1000 (by show 10 ≤ 1000; decide)) fun po Go mo fo go _ => ?_
      generalize hodd : [V.ref o1, V.ref o2, V.ref o3, V.non, V.ref o5, V.ref o6, V.ref o7, V.int 0, V.ref o9, V.ref o10] = odd at go
      have hall : ∀ x ∈ odd, RowA K 20 Go x := by
        have s10 := fo
        have s9 := f10.trans s10
        have s8 := f9.trans s9
        have s7 := f8.trans s8
        have s6 := f7.trans s7
        have s5 := f6.trans s6
        have s4 := f5.trans s5
        have s3 := f4.trans s4
        have s1 := f2.trans (f3.trans s3)
        intro x hx'
        rw [← hodd] at hx'
        simp only [List.mem_cons, List.not_mem_nil, or_false] at hx'
        rcases hx' with rfl | rfl | rfl | rfl | rfl | rfl | rfl | rfl | rfl | rfl
        · exact (RowA.tup (sqT g1) (by rw [List.length_reverse]; omega) (by decide) (fun y hy => hfl y (List.mem_reverse.mp hy))).same s1
        · refine (RowA.tup g3 (by rw [List.length_append]; omega) (by decide) (fun y hy => ?_)).same s3
          rcases List.mem_append.mp hy with hy | hy
          · exact hfl y hy
          · exact hfl y (List.mem_of_mem_drop (List.mem_of_mem_take hy))
        · exact (RowA.no (.lst g4) kb_lt).same s4
        · exact RowA.no .non kb_nt
        · exact (RowA.tup (sqT g5) (by show 1 ≤ 20; decide) (by decide) (by simp [Fl])).same s5
        · exact (RowA.tup (sqT g6) (by show 1 ≤ 20; decide) (by decide) (by simp [Fl])).same s6
        · exact (RowA.tup (sqT g7) (by show 1 ≤ 20; decide) (by decide) (by simp [Fl])).same s7
        · exact RowA.no (.int 0) kb_it
        · refine (RowA.tup g9 (by rw [List.length_append]; simp only [List.length_cons, List.length_nil]; omega) (by decide) (fun y hy => ?_)).same s9
          rcases List.mem_append.mp hy with hy | hy
          · exact hfl y hy
          · rw [List.mem_singleton.mp hy]
            rfl
        · exact (RowA.tup (sqT g10) (by show 1 ≤ 20; decide) (by decide) (by intro y hy; rw [List.mem_singleton.mp hy]; decide +kernel)).same s10
      have ol : odd.length = 10 := by
        rw [← hodd]
        rfl
      have f0o := f08.trans (f9.trans (f10.trans fo))
      have hpo : po ∉ [h, pc] := D4.not (none_of (f08.trans (f9.trans f10)) mo)
      clear hodd g1 g2 g3 g4 g5 g6 g7 g8 g9 g10
      walk_at "go"
      have D5 : DrS h pc H4 Go := DrS.of D4 f0o
      refine ⟨h, pc, _, rfl, D5.dr, hsts.dr D4 D5, fun w S H6 q6 hS => ?_⟩
      walk_at "go"
      refine al_l (sz1000 (by show 1 ≤ 1000; decide)) fun t1 E1 k1 c1 r1 _ => ?_
      walk_at "go"
      refine rep_l r1 (by decide) (by decide) (by show 1 ≤ 1000; decide) fun t2 E2 k2 c2 r2 => ?_
      walk_at "go"
      have hrep : (List.replicate (Int.toNat 9) [V.ref ga]).flatten.length ≤ 9 := by
        show (List.replicate 9 [V.ref ga]).flatten.length ≤ 9
        rw [PyProof.Rows.lm_len_rep_flat]
        simp
      refine add_l r2 ((c1.trans c2) _ _ (q6.get go hpo)) (by rw [ol]; omega) fun t3 E3 k3 c3 r3 => ?_
      have c03 := c1.trans (c2.trans c3)
      walk_at "go"
      refine ⟨h, pc, t3, _, rfl, q6.dr.same c03, by rw [List.length_append, ol]; omega, by rw [List.length_append, ol]; omega, .inr ⟨r3, (q6.dr.same (c1.trans c2)).not k3⟩, fun j wg H7 hj q7 => ?_⟩
      have D7 : DrS h pc H6 H7 := (DrS.of q6.dr c03).trans q7
      have hS7 := hS.dr q6.dr D7
      obtain ⟨G, hG⟩ : ∃ G, ItAt K H7 wg G := by
        rcases List.mem_append.mp (List.mem_of_getElem? hj) with hm | hm
        · obtain ⟨m, hm1, hm2⟩ := List.mem_flatten.mp hm
          rw [List.eq_of_mem_replicate hm1] at hm2
          rw [List.mem_singleton.mp hm2]
          exact ⟨some gv, ga, rfl, (q6.dr.nl D7.bt).t ((D5.dr.nl q6.bt).t (f0o.t hga)), by omega, hfl⟩
        · obtain ⟨I, hI, _⟩ := (((hall wg hm).dr D5.dr q6).dr q6.dr D7)
          exact ⟨I, hI⟩
      have D8 := D7.dr
      clear hj q7 D7 hS r3 c03 k3 c3 hrep r2 c2 k2 r1 c1 k1 q6 D5 hpo f0o ol hall go fo mo
      walk_at "go"
      refine ⟨_, _, rfl, nxs (σ' := [some (.ref a), some (.ref h), some (.int (0 + (i : Nat))), some w, some wg, some (.int sx.length), some (.ref po), y7, y8, y9]) rfl ?_⟩
      clear hsts hsx hsl hga hfl hgm
      walk_at "go"
      refine ⟨w, wg, S, G, rfl, hS7, hG, fun r hr' p1 E1 np1 s1 hp1 => ?_, fun its eS ok bad p1 E1 np1 s1 hp1 => ?_, fun its eS ok good x dx E1 nx1 s1 hx1 => ?_⟩
      · walk_at "go"
        refine ⟨w, wg, S, G, rfl, hS7.same s1, hG.same s1, fun r' hr2 p2 E2 np2 s2 hp2 => ?_, fun its eS ok => (bad_not_ok hr' ok).elim, fun its eS ok => (bad_not_ok hr' ok).elim⟩
        rw [← bad_unique hr' hr2] at hp2
        walk_at "go"
        refine ⟨_, _, rfl, nxs (σ' := [some (.ref a), some (.ref h), some (.int (0 + (i : Nat))), some w, some wg, some (.int sx.length), some (.ref po), some (.ref p1), some (.ref p2), y9]) rfl ?_⟩
        walk_at "go"
        refine ⟨rfl, ?_⟩
        walk_at "go"
        refine i_nd (fun _ => ?_) (fun e => by cases e)
        walk_at "go"
        refine ⟨_, _, rfl, sm_told (s2 _ _ hp1) hp2 (by show 2 ≤ 1000; decide) (fl_told r), fun E3 s3 => ?_⟩
        walk_at "go"
        exact ⟨_, _, _, _, _, _, _, _, rfl, D8.same (s1.trans (s2.trans s3))⟩
      · walk_at "go"
        refine ⟨w, wg, S, G, rfl, hS7.same s1, hG.same s1, fun r' hr2 => (bad_not_ok hr2 ok).elim, fun its2 eS2 ok2 bad2 p2 E2 np2 s2 hp2 => ?_, fun its2 eS2 ok2 good2 => ?_⟩
        · walk_at "go"
          refine ⟨_, _, rfl, nxs (σ' := [some (.ref a), some (.ref h), some (.int (0 + (i : Nat))), some w, some wg, some (.int sx.length), some (.ref po), some (.ref p1), some (.ref p2), y9]) rfl ?_⟩
          walk_at "go"
          refine ⟨rfl, ?_⟩
          walk_at "go"
          refine i_nd (fun _ => ?_) (fun e => by cases e)
          walk_at "go"
          refine ⟨_, _, rfl, sm_told (s2 _ _ hp1) hp2 (by show 1 ≤ 1000; decide) fl_toldG, fun E3 s3 => ?_⟩
          walk_at "go"
          exact ⟨_, _, _, _, _, _, _, _, rfl, D8.same (s1.trans (s2.trans s3))⟩
        · exfalso
          rw [eS] at eS2
          cases eS2
          rw [bad] at good2
          cases good2
      · walk_at "go"
        subst eS
        refine ⟨w, wg, _, G, rfl, hS7.same s1, hG.same s1, fun r' hr2 => (bad_not_ok hr2 ok).elim, fun its2 eS2 ok2 bad2 p2 E2 np2 s2 hp2 => ?_, fun its2 eS2 ok2 good2 E2 s2 => ?_⟩
        · exfalso
          cases eS2
          rw [good] at bad2
          cases bad2
        · clear good2 ok2 eS2
          walk_at "go"
          refine ⟨_, _, rfl, nxs (σ' := [some (.ref a), some (.ref h), some (.int (0 + (i : Nat))), some w, some wg, some (.int sx.length), some (.ref po), some (.ref x), some .non, y9]) rfl ?_⟩
          walk_at "go"
          refine ⟨rfl, ?_⟩
          walk_at "go"
          refine i_nd (fun e => absurd rfl e) (fun _ => ?_)
          walk_at "go"
          obtain ⟨rows', L', eS', hOk⟩ := ok_rows ok
          obtain ⟨gs', rfl, hgs⟩ := good_ints good
          have hlen' : its.length = rows'.length := by
            have := congrArg (fun o => (o.getD []).length) eS'
            simpa [stOf] using this
          rw [eS'] at hS7 ok
          have hgl : gs'.length ≤ 1000 := by
            obtain ⟨_, _, _, hz, _⟩ := id hG
            rw [List.length_map] at hz
            exact hz
          have hR : RowsT K E2 w rows' := (stOf_rows hS7).nl (s1.trans s2).nl
          have hGi : IntsT K E2 wg gs' := (it_ints hG).nl (s1.trans s2).nl
          have hS2 := hS7.same (s1.trans s2)
          have hG2 := hG.same (s1.trans s2)
          have hx2 := s2 _ _ hx1
          have D9 := D8.same (s1.trans s2)
          rw [hlen'] at good
          have n8 := hOk.2.1
          clear hS7 hG hx1 s1 s2 D8 hlen' eS' nx1
          refine isi_c (ty_mach T hx2) (kit_c T.ic_Machine T.t_Machine T.sb_Machine_Machine (fun _ => rfl)) ?_
          walk_at "go"
          have acc : ∀ {G' : Option (List V)} {H' : Hp}, goodV (rows'.length : Int) G' = true → Refd T.C_BadSteps T.C_BadGood (stOf rows') G' H' E0 := fun {G'} {H'} hg' => by
            refine ⟨fun r hr2 => (bad_not_ok hr2 ok).elim, fun its2 e2 _ bad2 => ?_⟩
            have : its2.length = rows'.length := by
              have := congrArg (fun o => (o.getD []).length) e2
              simpa [stOf] using this.symm
            rw [this, hg'] at bad2
            cases bad2
          refine mk_x hS2 hG2 (acc good) fun its2 _ _ _ x3 dx3 E3 nx3 s3 hx3 => ?_
          refine eqo_m T (s3 _ _ hx2) (hR.nl s3.nl) (hGi.nl s3.nl) hx3 (hR.nl s3.nl) (hGi.nl s3.nl) (b := true) (by simp) ?_
          walk_at "go"
          refine al_t (sz1000 (by show 2 ≤ 1000; decide)) fun t4 E4 n4 s4 h4 _ => ?_
          have s04 := s3.trans s4
          walk_at "go"
          refine eqo_t T (s04 _ _ hx2) (hR.nl s04.nl) (hGi.nl s04.nl) (sqT h4) ?_
          walk_at "go"
          refine ⟨x, dx, _, rfl, s04 _ _ hx2, x, dx, _, w, rfl, s04 _ _ hx2, mf_steps w wg, ?_⟩
          walk_at "go"
          refine ⟨x, dx, _, rfl, s04 _ _ hx2, x, dx, _, wg, rfl, s04 _ _ hx2, mf_good w wg, ?_⟩
          walk_at "go"
          refine lenO_m (s04 _ _ hx2) (hR.nl s04.nl) n8 ?_
          walk_at "go"
          refine al_l (sz1000 (by show 3 ≤ 1000; decide)) fun t5 E5 n5 s5 h5 _ => ?_
          walk_at "go"
          have s05 := s04.trans s5
          obtain ⟨wa, wxs, rfl, hwx, hwl, hwp⟩ := id hR
          refine lenO_t (s05.t hwx) ?_
          walk_at "go"
          refine al_l (sz1000 (by show 3 ≤ 1000; decide)) fun t6 E6 n6 s6 h6 _ => ?_
          rw [hwl] at h6
          have s06 := s05.trans s6
          walk_at "go"
          refine ⟨_, _, rfl, sm_parts (s6 _ _ h5) h6 (hR.nl s06.nl) hOk (hGi.nl s06.nl) hgl, fun E7 s7 => ?_⟩
          have s07 := s06.trans s7
          clear h4 h5 h6 n4 n5 n6 s3 s4 s5 s6 s04 s05 hx3 nx3
          obtain ⟨gb, rfl, hgx⟩ := id hGi
          walk_at "go"
          refine al_t (sz1000 (by show 0 ≤ 1000; decide)) fun t8 E8 n8' s8 h8 _ => ?_
          have s08 := s07.trans s8
          refine ne_ints (b := []) (hGi.nl s08.nl) ⟨t8, rfl, sqT h8⟩ ?_
          walk_at "go"
          refine i_nd (fun hne => ?_) (fun he => ?_)
          walk_at "go"
          refine sl_t (s08.t hgx) fun t9 E9 s9 h9 => ?_
          rw [cut1, ← List.map_drop] at h9
          have s09 := s08.trans s9
          walk_at "go"
          refine mk_x (G := some ((gs'.drop 1).map V.int)) (hS2.same s09) ⟨t9, rfl, h9, by rw [List.length_map, List.length_drop]; omega, fun y hy => by
            obtain ⟨z, _, rfl⟩ := List.mem_map.mp hy
            rfl⟩ (acc (by rw [List.map_drop]; exact good_drop good)) fun its2 _ _ _ x10 dx10 E10 nx10 s10 hx10 => ?_
          have s11 := s09.trans s10
          refine eqo_m T (s11 _ _ hx2) (hR.nl s11.nl) (hGi.nl s11.nl) hx10 (hR.nl s11.nl) ⟨t9, rfl, s10.t h9⟩ (b := false) (by
            rw [decide_eq_true (p := rows' = rows') rfl, Bool.true_and]
            refine decide_eq_false fun e => hne ?_
            have e2 := congrArg List.length e
            rw [List.length_drop] at e2
            exact List.eq_nil_of_length_eq_zero (by omega)) ?_
          clear h9 hx10 s9 s10 t9 nx10 s09 hne h8 s8 n8' s08
          rotate_left
          walk_at "go"
          refine al_t (sz1000 (by show 1 ≤ 1000; decide)) fun t9 E9 n9 s9 h9 _ => ?_
          have s09 := s08.trans s9
          walk_at "go"
          refine mk_x (G := some ([0].map V.int)) (hS2.same s09) ⟨t9, rfl, sqT h9, by show 1 ≤ 1000; decide, fun y hy => by
            rw [List.mem_singleton.mp hy]
            rfl⟩ (acc (by
              show ((below (.int 0) (rows'.length : Int) && true) && true) = true
              rw [below_int, decide_eq_true (by decide), decide_eq_true (by have := hOk.1; omega)]
              rfl)) fun its2 _ _ _ x10 dx10 E10 nx10 s10 hx10 => ?_
          have s11 := s09.trans s10
          refine eqo_m T (s11 _ _ hx2) (hR.nl s11.nl) (hGi.nl s11.nl) hx10 (hR.nl s11.nl) (g2 := [0]) ⟨t9, rfl, s10.t (sqT h9)⟩ (b := false) (by
            rw [decide_eq_true (p := rows' = rows') rfl, Bool.true_and]
            refine decide_eq_false fun e => ?_
            rw [he] at e
            cases e) ?_
          clear h9 hx10 s9 s10 nx10 s09 n9 he h8 s8 n8' s08
          all_goals (
            walk_at "go"
            refine lenO_t (s11.t hwx) ?_
            walk_at "go"
            refine i_d (fun hgt => ?_) (fun _ => ?_)
            rotate_left
            walk_at "go"
            exact ⟨_, _, _, _, _, _, _, _, rfl, D9.same s11⟩
            walk_at "go"
            refine ⟨1, rfl, ?_⟩
            have hmx : ∃ xl, wxs[wxs.length - 1]? = some xl := ⟨wxs[wxs.length - 1]'(by omega), List.getElem?_eq_getElem (by omega)⟩
            obtain ⟨xl, hmx⟩ := hmx
            have hmr : ∃ lr, rows'[rows'.length - 1]? = some lr := ⟨rows'[rows'.length - 1]'(by omega), List.getElem?_eq_getElem (by omega)⟩
            obtain ⟨lr, hmr⟩ := hmr
            obtain ⟨lb, rfl, hlb⟩ := hwp (wxs.length - 1) xl lr hmx (by rw [hwl]; exact hmr)
            obtain ⟨hlrL, hlrz⟩ := hOk.2.2.2.2 lr (List.mem_of_getElem? hmr)
            have hl1 := hOk.2.2.1
            have hz0 : ∃ z0, lr[0]? = some z0 := ⟨lr[0]'(by omega), List.getElem?_eq_getElem (by omega)⟩
            obtain ⟨z0, hz0⟩ := hz0
            have hz0b := hlrz z0 (List.mem_of_getElem? hz0)
            refine ix_t (s11.t hwx) (at_last hmx) ?_
            walk_at "go"
            refine ix_t (s11.t hlb) (atI_nat (j := 0) (v := .int z0) (by rw [List.getElem?_map, hz0]; rfl)) ?_
            walk_at "go"
            refine lenO_t (s11.t hwx) ?_
            walk_at "go"
            refine mod_c (by omega) ?_
            walk_at "go"
            generalize hgo : (z0 + 1).fmod (wxs.length : Int) = go
            have go0 : 0 ≤ go := by
              rw [← hgo]
              exact Int.fmod_nonneg_of_pos _ (by omega)
            have go1 : go < (wxs.length : Int) := by
              rw [← hgo]
              exact Int.fmod_lt_of_pos _ (by omega)
            have gone : go ≠ z0 := fun e => by
              rw [e, Int.fmod_eq_emod_of_nonneg _ (by omega)] at hgo
              by_cases hz : z0 + 1 < (wxs.length : Int)
              · rw [Int.emod_eq_of_lt (by omega) hz] at hgo
                omega
              · have : z0 + 1 = (wxs.length : Int) := by omega
                rw [this, Int.emod_self] at hgo
                omega
            refine ⟨1, rfl, ?_⟩
            walk_at "go"
            refine sl_t (s11.t hwx) fun b1 B1 c1 d1 => ?_
            have d1' : SqT K B1 b1 (wxs.take (wxs.length - 1)) := by
              rw [← cutm1 (by omega)]
              exact d1
            walk_at "go"
            refine al_t (sz1000 (by show 1 ≤ 1000; decide)) fun b2 B2 _ c2 d2 _ => ?_
            walk_at "go"
            refine ⟨1, rfl, ?_⟩
            have c12 := s11.trans (c1.trans c2)
            refine ix_t (c12.t hwx) (at_last hmx) ?_
            walk_at "go"
            refine sl_t (c12.t hlb) fun b3 B3 c3 d3 => ?_
            rw [cut1, ← List.map_drop] at d3
            walk_at "go"
            have l3 := hOk.2.2.2.1
            refine add_t (c3.t (sqT d2)) d3 (by simp only [List.length_cons, List.length_nil, List.length_map, List.length_drop]; omega) fun b4 B4 c4 d4 => ?_
            walk_at "go"
            refine al_t (sz1000 (by show 1 ≤ 1000; decide)) fun b5 B5 _ c5 d5 _ => ?_
            walk_at "go"
            refine add_t ((c2.trans (c3.trans (c4.trans c5))).t d1') (sqT d5) (by simp only [List.length_cons, List.length_nil, List.length_take]; omega) fun b6 B6 c6 d6 => ?_
            walk_at "go"
            have s16 := s11.trans (c1.trans (c2.trans (c3.trans (c4.trans (c5.trans c6)))))
            have hRn : RowsT K B6 (.ref b6) (rows'.take (rows'.length - 1) ++ [go :: lr.drop 1]) := rows_last d6 ((c5.trans c6).t d4) hwl hOk.1 fun i x r e1 e2 => (hwp i x r e1 e2).nl s16.nl
            have hOn : OkS L' (rows'.take (rows'.length - 1) ++ [go :: lr.drop 1]) := ok_last hOk (by rw [List.length_cons, List.length_drop]; omega) fun z hz => by
              rcases List.mem_cons.mp hz with rfl | hz
              · exact ⟨go0, by omega⟩
              · exact hlrz z (List.mem_of_mem_drop hz)
            have hln : (rows'.take (rows'.length - 1) ++ [go :: lr.drop 1]).length = rows'.length := by
              simp only [List.length_append, List.length_take, List.length_cons, List.length_nil]
              omega
            refine mk_x (rows_stOf hRn hOn) (hG2.same s16) ⟨fun r hr2 => (bad_not_ok hr2 (ok_stOf hOn)).elim, fun its2 e2 _ bad2 => ?_⟩ fun its2 _ _ _ x20 dx20 B7 nx20 c7 hx20 => ?_
            · have e3 : its2.length = rows'.length := by
                have e4 := congrArg (fun o => (o.getD []).length) e2
                rw [← hln]
                simpa [stOf] using e4.symm
              rw [e3, good] at bad2
              cases bad2
            · have s17 := s16.trans c7
              refine eqo_m T (s17 _ _ hx2) (hR.nl s17.nl) (hGi.nl s17.nl) hx20 (hRn.nl c7.nl) (hGi.nl s17.nl) (b := false) ?_ ?_
              · rw [decide_eq_false (ne_last hmr fun e => gone ?_), Bool.false_and]
                rw [e] at hz0
                exact Option.some.inj hz0
              · walk_at "go"
                exact ⟨_, _, _, _, _, _, _, _, rfl, D9.same s17⟩)
    · obtain ⟨y2, y3, y4, y5, y6, y7, y8, y9, rfl, D2⟩ := hp
      walk_at "go"
      exact q _
end
theorem all_mk {l : PySem.W.OpenLaw} {w : World} {K : PySem.W.Frag} {h : Heap} {mg : Str → Option Value} {fa : Addr} (X : K.In h) (G : h.Ns mainGlobals mg) (hfa : mg "law" = some (.ref fa))
    {t_MOST_STANDS : Tok}
    {t_MOST_LETTERS : Tok}
    {C_MachineError : Addr}
    {C_BadSteps : Addr}
    {xnm_BadSteps xq_BadSteps : Str} {xN_BadSteps : Addr} {xbs_BadSteps xbm_BadSteps : List Value} {xsn_BadSteps : List Str} {xsub_BadSteps : List Value} {xab_BadSteps : Bool} {xcol_BadSteps : Option Bool} {xdd_BadSteps : Option Addr} {xm0_BadSteps xm1_BadSteps xm2_BadSteps xm3_BadSteps xm5_BadSteps : Option Value}
    {C_BadGood : Addr}
    {C_Machine : Addr}
    {a_is_below : Addr} {od_is_below an_is_below : Option Addr} {sl_is_below : Array (Option Value)} {oc_is_below kV_is_below dc_is_below pm_is_below cd_is_below ct_is_below : Value}
    {a_are_below : Addr} {od_are_below an_are_below : Option Addr} {sl_are_below : Array (Option Value)} {oc_are_below kV_are_below dc_are_below pm_are_below cd_are_below ct_are_below : Value}
    {a_BadSteps_init cda_BadSteps_init cc_BadSteps_init : Addr} {od_BadSteps_init an_BadSteps_init : Option Addr} {sl_BadSteps_init : Array (Option Value)} {oc_BadSteps_init kV_BadSteps_init dc_BadSteps_init pm_BadSteps_init ct_BadSteps_init : Value}
    {ccl_BadSteps_init : Value} {cdd_BadSteps_init : Option Addr} {vs0_BadSteps_init : Array Value} {ccs_BadSteps_init : Array (Option Value)} {file_BadSteps_init : Str} {tf_BadSteps_init : Tok} {cl_BadSteps_init : Value} {cld_BadSteps_init : Option Addr} {csl_BadSteps_init : Array (Option Value)} {cdD_BadSteps_init : ClassData}
    {a_told : Addr} {od_told an_told : Option Addr} {sl_told : Array (Option Value)} {oc_told kV_told dc_told pm_told cd_told ct_told : Value}
    {a_Machine_init : Addr} {od_Machine_init an_Machine_init : Option Addr} {sl_Machine_init : Array (Option Value)} {oc_Machine_init kV_Machine_init dc_Machine_init pm_Machine_init cd_Machine_init ct_Machine_init : Value}
    {a_Machine_steps : Addr} {od_Machine_steps an_Machine_steps : Option Addr} {sl_Machine_steps : Array (Option Value)} {oc_Machine_steps kV_Machine_steps dc_Machine_steps pm_Machine_steps cd_Machine_steps ct_Machine_steps : Value}
    {pa_Machine_steps : Addr} {rs_Machine_steps : List Value}
    {a_Machine_good : Addr} {od_Machine_good an_Machine_good : Option Addr} {sl_Machine_good : Array (Option Value)} {oc_Machine_good kV_Machine_good dc_Machine_good pm_Machine_good cd_Machine_good ct_Machine_good : Value}
    {pa_Machine_good : Addr} {rs_Machine_good : List Value}
    {a_Machine_len : Addr} {od_Machine_len an_Machine_len : Option Addr} {sl_Machine_len : Array (Option Value)} {oc_Machine_len kV_Machine_len dc_Machine_len pm_Machine_len cd_Machine_len ct_Machine_len : Value}
    {a_Machine_eq : Addr} {od_Machine_eq an_Machine_eq : Option Addr} {sl_Machine_eq : Array (Option Value)} {oc_Machine_eq kV_Machine_eq dc_Machine_eq pm_Machine_eq cd_Machine_eq ct_Machine_eq : Value}
    {a_check_steps : Addr} {od_check_steps an_check_steps : Option Addr} {sl_check_steps : Array (Option Value)} {oc_check_steps kV_check_steps dc_check_steps pm_check_steps cd_check_steps ct_check_steps : Value}
    {a_are_leads : Addr} {od_are_leads an_are_leads : Option Addr} {sl_are_leads : Array (Option Value)} {oc_are_leads kV_are_leads dc_are_leads pm_are_leads cd_are_leads ct_are_leads : Value}
    {a_check_good : Addr} {od_check_good an_check_good : Option Addr} {sl_check_good : Array (Option Value)} {oc_check_good kV_check_good dc_check_good pm_check_good cd_check_good ct_check_good : Value}
    {a__law_mix : Addr} {od__law_mix an__law_mix : Option Addr} {sl__law_mix : Array (Option Value)} {oc__law_mix kV__law_mix dc__law_mix pm__law_mix cd__law_mix ct__law_mix : Value}
    {a__law_next : Addr} {od__law_next an__law_next : Option Addr} {sl__law_next : Array (Option Value)} {oc__law_next kV__law_next dc__law_next pm__law_next cd__law_next ct__law_next : Value}
    {a__law_alike : Addr} {od__law_alike an__law_alike : Option Addr} {sl__law_alike : Array (Option Value)} {oc__law_alike kV__law_alike dc__law_alike pm__law_alike cd__law_alike ct__law_alike : Value}
    {a__law_pick : Addr} {od__law_pick an__law_pick : Option Addr} {sl__law_pick : Array (Option Value)} {oc__law_pick kV__law_pick dc__law_pick pm__law_pick cd__law_pick ct__law_pick : Value}
    {a__law_parts : Addr} {od__law_parts an__law_parts : Option Addr} {sl__law_parts : Array (Option Value)} {oc__law_parts kV__law_parts dc__law_parts pm__law_parts cd__law_parts ct__law_parts : Value}
    {a__law_stand : Addr} {od__law_stand an__law_stand : Option Addr} {sl__law_stand : Array (Option Value)} {oc__law_stand kV__law_stand dc__law_stand pm__law_stand cd__law_stand ct__law_stand : Value}
    {a__law_fault : Addr} {od__law_fault an__law_fault : Option Addr} {sl__law_fault : Array (Option Value)} {oc__law_fault kV__law_fault dc__law_fault pm__law_fault cd__law_fault ct__law_fault : Value}
    {a__law_tried : Addr} {od__law_tried an__law_tried : Option Addr} {sl__law_tried : Array (Option Value)} {oc__law_tried kV__law_tried dc__law_tried pm__law_tried cd__law_tried ct__law_tried : Value}
    {a__law_spoilt : Addr} {od__law_spoilt an__law_spoilt : Option Addr} {sl__law_spoilt : Array (Option Value)} {oc__law_spoilt kV__law_spoilt dc__law_spoilt pm__law_spoilt cd__law_spoilt ct__law_spoilt : Value}
    {a_law : Addr} {od_law an_law : Option Addr} {sl_law : Array (Option Value)} {oc_law kV_law dc_law pm_law cd_law ct_law : Value}
    (z_all : PySem.W.nsIn K mainGlobals "all" = some none)
    (z_bool : PySem.W.nsIn K mainGlobals "bool" = some none)
    (z_enumerate : PySem.W.nsIn K mainGlobals "enumerate" = some none)
    (z_int : PySem.W.nsIn K mainGlobals "int" = some none)
    (z_isinstance : PySem.W.nsIn K mainGlobals "isinstance" = some none)
    (z_len : PySem.W.nsIn K mainGlobals "len" = some none)
    (z_list : PySem.W.nsIn K mainGlobals "list" = some none)
    (z_max : PySem.W.nsIn K mainGlobals "max" = some none)
    (z_min : PySem.W.nsIn K mainGlobals "min" = some none)
    (z_range : PySem.W.nsIn K mainGlobals "range" = some none)
    (z_str : PySem.W.nsIn K mainGlobals "str" = some none)
    (z_super : PySem.W.nsIn K mainGlobals "super" = some none)
    (z_tuple : PySem.W.nsIn K mainGlobals "tuple" = some none)
    (z_zip : PySem.W.nsIn K mainGlobals "zip" = some none)
    (g_MOST_STANDS : PySem.W.nsIn K mainGlobals "MOST_STANDS" = some (some (.int 8 t_MOST_STANDS)))
    (g_MOST_LETTERS : PySem.W.nsIn K mainGlobals "MOST_LETTERS" = some (some (.int 3 t_MOST_LETTERS)))
    (hnX : PySem.W.specialIn K (.builtin "object.__class__") "__get__" = some (some (.builtin "getset_descriptor.__get__")))
    (htX : PySem.W.takesIn K (.builtin "object.__class__") = some true)
    (g_MachineError : PySem.W.nsIn K mainGlobals "MachineError" = some (some (.ref C_MachineError)))
    (k_MachineError : PySem.W.keepIn K (.ref C_MachineError) = true)
    (r_MachineError : PySem.W.subIn K (.ref C_MachineError) (.type "BaseException") = some true)
    (t_MachineError : PySem.W.typeIn K (.ref C_MachineError) = some (.type "type"))
    (ic_MachineError : PySem.W.isClsIn K C_MachineError = true)
    (e1_MachineError : PySem.W.findIn K (.ref C_MachineError) "__getattribute__" = some (some (.builtin "BaseException.__getattribute__")))
    (e2_MachineError : PySem.W.findIn K (.ref C_MachineError) "__getattr__" = some none)
    (e4_MachineError : PySem.W.hasDictIn K C_MachineError = true)
    (e5_MachineError : PySem.W.findIn K (.ref C_MachineError) "__class__" = some (some (.builtin "object.__class__")))
    (e8_MachineError : PySem.W.mroIn K C_MachineError (.type "object") = some true)
    (g_BadSteps : PySem.W.nsIn K mainGlobals "BadSteps" = some (some (.ref C_BadSteps)))
    (k_BadSteps : PySem.W.keepIn K (.ref C_BadSteps) = true)
    (r_BadSteps : PySem.W.subIn K (.ref C_BadSteps) (.type "BaseException") = some true)
    (t_BadSteps : PySem.W.typeIn K (.ref C_BadSteps) = some (.type "type"))
    (ic_BadSteps : PySem.W.isClsIn K C_BadSteps = true)
    (e1_BadSteps : PySem.W.findIn K (.ref C_BadSteps) "__getattribute__" = some (some (.builtin "BaseException.__getattribute__")))
    (e2_BadSteps : PySem.W.findIn K (.ref C_BadSteps) "__getattr__" = some none)
    (e4_BadSteps : PySem.W.hasDictIn K C_BadSteps = true)
    (e5_BadSteps : PySem.W.findIn K (.ref C_BadSteps) "__class__" = some (some (.builtin "object.__class__")))
    (e8_BadSteps : PySem.W.mroIn K C_BadSteps (.type "object") = some true)
    (x1_BadSteps : K.lookup C_BadSteps = some (excClassObj xnm_BadSteps xq_BadSteps C_BadSteps xN_BadSteps xbs_BadSteps xbm_BadSteps true xsn_BadSteps xsub_BadSteps xab_BadSteps xcol_BadSteps xdd_BadSteps xm0_BadSteps xm1_BadSteps xm2_BadSteps xm3_BadSteps xm5_BadSteps "ValueError.__new__"))
    (x2_BadSteps : PySem.HandSPX.refsVE xbm_BadSteps = true)
    (x3_BadSteps : PySem.W.findIn K (.ref C_BadSteps) "__setattr__" = some (some (.builtin "object.__setattr__")))
    (n_BadSteps_index : PySem.W.findIn K (.ref C_BadSteps) "index" = some none)
    (g_BadGood : PySem.W.nsIn K mainGlobals "BadGood" = some (some (.ref C_BadGood)))
    (k_BadGood : PySem.W.keepIn K (.ref C_BadGood) = true)
    (r_BadGood : PySem.W.subIn K (.ref C_BadGood) (.type "BaseException") = some true)
    (t_BadGood : PySem.W.typeIn K (.ref C_BadGood) = some (.type "type"))
    (ic_BadGood : PySem.W.isClsIn K C_BadGood = true)
    (e1_BadGood : PySem.W.findIn K (.ref C_BadGood) "__getattribute__" = some (some (.builtin "BaseException.__getattribute__")))
    (e2_BadGood : PySem.W.findIn K (.ref C_BadGood) "__getattr__" = some none)
    (e4_BadGood : PySem.W.hasDictIn K C_BadGood = true)
    (e5_BadGood : PySem.W.findIn K (.ref C_BadGood) "__class__" = some (some (.builtin "object.__class__")))
    (e8_BadGood : PySem.W.mroIn K C_BadGood (.type "object") = some true)
    (q_BadGood : PySem.W.excIn K C_BadGood [.type "ValueError", .type "Exception", .type "BaseException", .type "object"] "ValueError.__new__" = true)
    (g_Machine : PySem.W.nsIn K mainGlobals "Machine" = some (some (.ref C_Machine)))
    (pg_Machine : PySem.W.plainGet K C_Machine Str.empty = true)
    (hd_Machine : PySem.W.hasDictIn K C_Machine = true)
    (po_Machine : PySem.W.plainOver K C_Machine = true)
    (sa_Machine : PySem.W.findIn K (.ref C_Machine) "__setattr__" = some (some (.builtin "object.__setattr__")))
    (mk_Machine : PySem.W.makesIn K C_Machine = true)
    (kc_Machine : PySem.W.keepIn K (.ref C_Machine) = true)
    (n_Machine__steps : PySem.W.findIn K (.ref C_Machine) "_steps" = some none)
    (n_Machine__good : PySem.W.findIn K (.ref C_Machine) "_good" = some none)
    (t_Machine : PySem.W.typeIn K (.ref C_Machine) = some (.type "type"))
    (ic_Machine : PySem.W.isClsIn K C_Machine = true)
    (ca_Machine : PySem.W.findIn K (.ref C_Machine) "__class__" = some (some (.builtin "object.__class__")))
    (cn_Machine : PySem.W.specialIn K (.builtin "object.__class__") "__get__" = some (some (.builtin "getset_descriptor.__get__")))
    (ct_Machine : PySem.W.takesIn K (.builtin "object.__class__") = some true)
    (cm_Machine : PySem.W.mroIn K C_Machine (.type "object") = some true)
    (sb_BadSteps_MachineError : PySem.W.subIn K (.ref C_BadSteps) (.ref C_MachineError) = some true)
    (sb_BadGood_MachineError : PySem.W.subIn K (.ref C_BadGood) (.ref C_MachineError) = some true)
    (sb_BadSteps_BadSteps : PySem.W.subIn K (.ref C_BadSteps) (.ref C_BadSteps) = some true)
    (sb_BadGood_BadSteps : PySem.W.subIn K (.ref C_BadGood) (.ref C_BadSteps) = some false)
    (sb_BadGood_BadGood : PySem.W.subIn K (.ref C_BadGood) (.ref C_BadGood) = some true)
    (sb_Machine_Machine : PySem.W.subIn K (.ref C_Machine) (.ref C_Machine) = some true)
    (sb_list_Machine : PySem.W.subIn K (.type "list") (.ref C_Machine) = some false)
    (sb_NoneType_Machine : PySem.W.subIn K (.type "NoneType") (.ref C_Machine) = some false)
    (sb_tuple_Machine : PySem.W.subIn K (.type "tuple") (.ref C_Machine) = some false)
    (a1_is_below : PySem.W.nsIn K mainGlobals "is_below" = some (some (.ref a_is_below)))
    (l_is_below : K.lookup a_is_below = some ⟨oc_is_below, od_is_below, .func (PySem.W.fnOf "is_below" "is_below" (defArgs s_is_below) (defBody s_is_below) (defScope s_is_below) .none kV_is_below dc_is_below pm_is_below an_is_below cd_is_below ct_is_below), sl_is_below⟩)
    (c_is_below : PySem.W.codeIn K cd_is_below "is_below" = true)
    (k_is_below : PySem.W.keepIn K (.ref a_is_below) = true)
    (a1_are_below : PySem.W.nsIn K mainGlobals "are_below" = some (some (.ref a_are_below)))
    (l_are_below : K.lookup a_are_below = some ⟨oc_are_below, od_are_below, .func (PySem.W.fnOf "are_below" "are_below" (defArgs s_are_below) (defBody s_are_below) (defScope s_are_below) .none kV_are_below dc_are_below pm_are_below an_are_below cd_are_below ct_are_below), sl_are_below⟩)
    (c_are_below : PySem.W.codeIn K cd_are_below "are_below" = true)
    (k_are_below : PySem.W.keepIn K (.ref a_are_below) = true)
    (a1_BadSteps_init : PySem.W.findIn K (.ref C_BadSteps) "__init__" = some (some (.ref a_BadSteps_init)))
    (ty_BadSteps_init : PySem.W.typeIn K (.ref a_BadSteps_init) = some (.type "function"))
    (l_BadSteps_init : K.lookup a_BadSteps_init = some ⟨oc_BadSteps_init, od_BadSteps_init, .func (PySem.W.fnX "__init__" "BadSteps.__init__" (defArgs s_BadSteps_init) (defBody s_BadSteps_init) (defScope s_BadSteps_init) [("__class__", cc_BadSteps_init)] .none kV_BadSteps_init dc_BadSteps_init pm_BadSteps_init an_BadSteps_init (.ref cda_BadSteps_init) ct_BadSteps_init), sl_BadSteps_init⟩)
    (c_BadSteps_init : PySem.W.codeIn K (.ref cda_BadSteps_init) "BadSteps.__init__" = true)
    (s1_BadSteps_init : K.lookup cda_BadSteps_init = some ⟨ccl_BadSteps_init, cdd_BadSteps_init, .fields vs0_BadSteps_init, ccs_BadSteps_init⟩)
    (s2_BadSteps_init : vs0_BadSteps_init[2]? = some (.str file_BadSteps_init tf_BadSteps_init))
    (s3_BadSteps_init : ((l.prog.main.file : Str) == file_BadSteps_init) = true)
    (s4_BadSteps_init : K.lookup cc_BadSteps_init = some ⟨cl_BadSteps_init, cld_BadSteps_init, .cell (some (.ref C_BadSteps)), csl_BadSteps_init⟩)
    (s5_BadSteps_init : PySem.W.clsIn K C_BadSteps = some cdD_BadSteps_init)
    (s6_BadSteps_init : PySem.W.mroIn K C_BadSteps (.ref C_BadSteps) = some true)
    (s7_BadSteps_init : PySem.W.nsIn K mainGlobals "super" = some none)
    (s8_BadSteps_init : (l.prog.main.scope.names.lookup ("super" : Str)).isSome = false)
    (s9_BadSteps_init : PySem.W.nsIn K PySem.cStatics "thirdparty.any" = some none)
    (s10_BadSteps_init : PySem.W.ks_superIn K C_BadSteps C_BadSteps "__init__" = some (some (.builtin "ValueError.__init__")))
    (s11_BadSteps_init : PySem.W.subIn K (.ref C_BadSteps) (.type "ValueError") = some true)
    (a1_told : PySem.W.nsIn K mainGlobals "told" = some (some (.ref a_told)))
    (l_told : K.lookup a_told = some ⟨oc_told, od_told, .func (PySem.W.fnOf "told" "told" (defArgs s_told) (defBody s_told) (defScope s_told) .none kV_told dc_told pm_told an_told cd_told ct_told), sl_told⟩)
    (c_told : PySem.W.codeIn K cd_told "told" = true)
    (k_told : PySem.W.keepIn K (.ref a_told) = true)
    (a1_Machine_init : PySem.W.findIn K (.ref C_Machine) "__init__" = some (some (.ref a_Machine_init)))
    (i_Machine_init : PySem.W.isFn K (.ref a_Machine_init) = true)
    (l_Machine_init : K.lookup a_Machine_init = some ⟨oc_Machine_init, od_Machine_init, .func (PySem.W.fnOf "__init__" "Machine.__init__" (defArgs s_Machine_init) (defBody s_Machine_init) (defScope s_Machine_init) .none kV_Machine_init dc_Machine_init pm_Machine_init an_Machine_init cd_Machine_init ct_Machine_init), sl_Machine_init⟩)
    (c_Machine_init : PySem.W.codeIn K cd_Machine_init "Machine.__init__" = true)
    (k_Machine_init : PySem.W.keepIn K (.ref a_Machine_init) = true)
    (a1_Machine_steps : PySem.W.findIn K (.ref C_Machine) "steps" = some (some (.ref pa_Machine_steps)))
    (a2_Machine_steps : PySem.W.specialIn K (.ref pa_Machine_steps) "__get__" = some (some (.builtin "property.__get__")))
    (a3_Machine_steps : PySem.W.takesIn K (.ref pa_Machine_steps) = some true)
    (a4_Machine_steps : PySem.W.recIn K pa_Machine_steps "property" = some (.ref a_Machine_steps :: rs_Machine_steps))
    (l_Machine_steps : K.lookup a_Machine_steps = some ⟨oc_Machine_steps, od_Machine_steps, .func (PySem.W.fnOf "steps" "Machine.steps" (defArgs s_Machine_steps) (defBody s_Machine_steps) (defScope s_Machine_steps) .none kV_Machine_steps dc_Machine_steps pm_Machine_steps an_Machine_steps cd_Machine_steps ct_Machine_steps), sl_Machine_steps⟩)
    (c_Machine_steps : PySem.W.codeIn K cd_Machine_steps "Machine.steps" = true)
    (k_Machine_steps : PySem.W.keepIn K (.ref a_Machine_steps) = true)
    (a1_Machine_good : PySem.W.findIn K (.ref C_Machine) "good" = some (some (.ref pa_Machine_good)))
    (a2_Machine_good : PySem.W.specialIn K (.ref pa_Machine_good) "__get__" = some (some (.builtin "property.__get__")))
    (a3_Machine_good : PySem.W.takesIn K (.ref pa_Machine_good) = some true)
    (a4_Machine_good : PySem.W.recIn K pa_Machine_good "property" = some (.ref a_Machine_good :: rs_Machine_good))
    (l_Machine_good : K.lookup a_Machine_good = some ⟨oc_Machine_good, od_Machine_good, .func (PySem.W.fnOf "good" "Machine.good" (defArgs s_Machine_good) (defBody s_Machine_good) (defScope s_Machine_good) .none kV_Machine_good dc_Machine_good pm_Machine_good an_Machine_good cd_Machine_good ct_Machine_good), sl_Machine_good⟩)
    (c_Machine_good : PySem.W.codeIn K cd_Machine_good "Machine.good" = true)
    (k_Machine_good : PySem.W.keepIn K (.ref a_Machine_good) = true)
    (a1_Machine_len : PySem.W.findIn K (.ref C_Machine) "__len__" = some (some (.ref a_Machine_len)))
    (i_Machine_len : PySem.W.isFn K (.ref a_Machine_len) = true)
    (l_Machine_len : K.lookup a_Machine_len = some ⟨oc_Machine_len, od_Machine_len, .func (PySem.W.fnOf "__len__" "Machine.__len__" (defArgs s_Machine_len) (defBody s_Machine_len) (defScope s_Machine_len) .none kV_Machine_len dc_Machine_len pm_Machine_len an_Machine_len cd_Machine_len ct_Machine_len), sl_Machine_len⟩)
    (c_Machine_len : PySem.W.codeIn K cd_Machine_len "Machine.__len__" = true)
    (k_Machine_len : PySem.W.keepIn K (.ref a_Machine_len) = true)
    (a1_Machine_eq : PySem.W.findIn K (.ref C_Machine) "__eq__" = some (some (.ref a_Machine_eq)))
    (i_Machine_eq : PySem.W.isFn K (.ref a_Machine_eq) = true)
    (l_Machine_eq : K.lookup a_Machine_eq = some ⟨oc_Machine_eq, od_Machine_eq, .func (PySem.W.fnOf "__eq__" "Machine.__eq__" (defArgs s_Machine_eq) (defBody s_Machine_eq) (defScope s_Machine_eq) .none kV_Machine_eq dc_Machine_eq pm_Machine_eq an_Machine_eq cd_Machine_eq ct_Machine_eq), sl_Machine_eq⟩)
    (c_Machine_eq : PySem.W.codeIn K cd_Machine_eq "Machine.__eq__" = true)
    (k_Machine_eq : PySem.W.keepIn K (.ref a_Machine_eq) = true)
    (a1_check_steps : PySem.W.nsIn K mainGlobals "check_steps" = some (some (.ref a_check_steps)))
    (l_check_steps : K.lookup a_check_steps = some ⟨oc_check_steps, od_check_steps, .func (PySem.W.fnOf "check_steps" "check_steps" (defArgs s_check_steps) (defBody s_check_steps) (defScope s_check_steps) .none kV_check_steps dc_check_steps pm_check_steps an_check_steps cd_check_steps ct_check_steps), sl_check_steps⟩)
    (c_check_steps : PySem.W.codeIn K cd_check_steps "check_steps" = true)
    (k_check_steps : PySem.W.keepIn K (.ref a_check_steps) = true)
    (a1_are_leads : PySem.W.nsIn K mainGlobals "are_leads" = some (some (.ref a_are_leads)))
    (l_are_leads : K.lookup a_are_leads = some ⟨oc_are_leads, od_are_leads, .func (PySem.W.fnOf "are_leads" "are_leads" (defArgs s_are_leads) (defBody s_are_leads) (defScope s_are_leads) .none kV_are_leads dc_are_leads pm_are_leads an_are_leads cd_are_leads ct_are_leads), sl_are_leads⟩)
    (c_are_leads : PySem.W.codeIn K cd_are_leads "are_leads" = true)
    (k_are_leads : PySem.W.keepIn K (.ref a_are_leads) = true)
    (a1_check_good : PySem.W.nsIn K mainGlobals "check_good" = some (some (.ref a_check_good)))
    (l_check_good : K.lookup a_check_good = some ⟨oc_check_good, od_check_good, .func (PySem.W.fnOf "check_good" "check_good" (defArgs s_check_good) (defBody s_check_good) (defScope s_check_good) .none kV_check_good dc_check_good pm_check_good an_check_good cd_check_good ct_check_good), sl_check_good⟩)
    (c_check_good : PySem.W.codeIn K cd_check_good "check_good" = true)
    (k_check_good : PySem.W.keepIn K (.ref a_check_good) = true)
    (a1__law_mix : PySem.W.nsIn K mainGlobals "_law_mix" = some (some (.ref a__law_mix)))
    (l__law_mix : K.lookup a__law_mix = some ⟨oc__law_mix, od__law_mix, .func (PySem.W.fnOf "_law_mix" "_law_mix" (defArgs s__law_mix) (defBody s__law_mix) (defScope s__law_mix) .none kV__law_mix dc__law_mix pm__law_mix an__law_mix cd__law_mix ct__law_mix), sl__law_mix⟩)
    (c__law_mix : PySem.W.codeIn K cd__law_mix "_law_mix" = true)
    (k__law_mix : PySem.W.keepIn K (.ref a__law_mix) = true)
    (a1__law_next : PySem.W.nsIn K mainGlobals "_law_next" = some (some (.ref a__law_next)))
    (l__law_next : K.lookup a__law_next = some ⟨oc__law_next, od__law_next, .func (PySem.W.fnOf "_law_next" "_law_next" (defArgs s__law_next) (defBody s__law_next) (defScope s__law_next) .none kV__law_next dc__law_next pm__law_next an__law_next cd__law_next ct__law_next), sl__law_next⟩)
    (c__law_next : PySem.W.codeIn K cd__law_next "_law_next" = true)
    (k__law_next : PySem.W.keepIn K (.ref a__law_next) = true)
    (a1__law_alike : PySem.W.nsIn K mainGlobals "_law_alike" = some (some (.ref a__law_alike)))
    (l__law_alike : K.lookup a__law_alike = some ⟨oc__law_alike, od__law_alike, .func (PySem.W.fnOf "_law_alike" "_law_alike" (defArgs s__law_alike) (defBody s__law_alike) (defScope s__law_alike) .none kV__law_alike dc__law_alike pm__law_alike an__law_alike cd__law_alike ct__law_alike), sl__law_alike⟩)
    (c__law_alike : PySem.W.codeIn K cd__law_alike "_law_alike" = true)
    (k__law_alike : PySem.W.keepIn K (.ref a__law_alike) = true)
    (a1__law_pick : PySem.W.nsIn K mainGlobals "_law_pick" = some (some (.ref a__law_pick)))
    (l__law_pick : K.lookup a__law_pick = some ⟨oc__law_pick, od__law_pick, .func (PySem.W.fnOf "_law_pick" "_law_pick" (defArgs s__law_pick) (defBody s__law_pick) (defScope s__law_pick) .none kV__law_pick dc__law_pick pm__law_pick an__law_pick cd__law_pick ct__law_pick), sl__law_pick⟩)
    (c__law_pick : PySem.W.codeIn K cd__law_pick "_law_pick" = true)
    (k__law_pick : PySem.W.keepIn K (.ref a__law_pick) = true)
    (a1__law_parts : PySem.W.nsIn K mainGlobals "_law_parts" = some (some (.ref a__law_parts)))
    (l__law_parts : K.lookup a__law_parts = some ⟨oc__law_parts, od__law_parts, .func (PySem.W.fnOf "_law_parts" "_law_parts" (defArgs s__law_parts) (defBody s__law_parts) (defScope s__law_parts) .none kV__law_parts dc__law_parts pm__law_parts an__law_parts cd__law_parts ct__law_parts), sl__law_parts⟩)
    (c__law_parts : PySem.W.codeIn K cd__law_parts "_law_parts" = true)
    (k__law_parts : PySem.W.keepIn K (.ref a__law_parts) = true)
    (a1__law_stand : PySem.W.nsIn K mainGlobals "_law_stand" = some (some (.ref a__law_stand)))
    (l__law_stand : K.lookup a__law_stand = some ⟨oc__law_stand, od__law_stand, .func (PySem.W.fnOf "_law_stand" "_law_stand" (defArgs s__law_stand) (defBody s__law_stand) (defScope s__law_stand) .none kV__law_stand dc__law_stand pm__law_stand an__law_stand cd__law_stand ct__law_stand), sl__law_stand⟩)
    (c__law_stand : PySem.W.codeIn K cd__law_stand "_law_stand" = true)
    (k__law_stand : PySem.W.keepIn K (.ref a__law_stand) = true)
    (a1__law_fault : PySem.W.nsIn K mainGlobals "_law_fault" = some (some (.ref a__law_fault)))
    (l__law_fault : K.lookup a__law_fault = some ⟨oc__law_fault, od__law_fault, .func (PySem.W.fnOf "_law_fault" "_law_fault" (defArgs s__law_fault) (defBody s__law_fault) (defScope s__law_fault) .none kV__law_fault dc__law_fault pm__law_fault an__law_fault cd__law_fault ct__law_fault), sl__law_fault⟩)
    (c__law_fault : PySem.W.codeIn K cd__law_fault "_law_fault" = true)
    (k__law_fault : PySem.W.keepIn K (.ref a__law_fault) = true)
    (a1__law_tried : PySem.W.nsIn K mainGlobals "_law_tried" = some (some (.ref a__law_tried)))
    (l__law_tried : K.lookup a__law_tried = some ⟨oc__law_tried, od__law_tried, .func (PySem.W.fnOf "_law_tried" "_law_tried" (defArgs s__law_tried) (defBody s__law_tried) (defScope s__law_tried) .none kV__law_tried dc__law_tried pm__law_tried an__law_tried cd__law_tried ct__law_tried), sl__law_tried⟩)
    (c__law_tried : PySem.W.codeIn K cd__law_tried "_law_tried" = true)
    (k__law_tried : PySem.W.keepIn K (.ref a__law_tried) = true)
    (a1__law_spoilt : PySem.W.nsIn K mainGlobals "_law_spoilt" = some (some (.ref a__law_spoilt)))
    (l__law_spoilt : K.lookup a__law_spoilt = some ⟨oc__law_spoilt, od__law_spoilt, .func (PySem.W.fnOf "_law_spoilt" "_law_spoilt" (defArgs s__law_spoilt) (defBody s__law_spoilt) (defScope s__law_spoilt) .none kV__law_spoilt dc__law_spoilt pm__law_spoilt an__law_spoilt cd__law_spoilt ct__law_spoilt), sl__law_spoilt⟩)
    (c__law_spoilt : PySem.W.codeIn K cd__law_spoilt "_law_spoilt" = true)
    (k__law_spoilt : PySem.W.keepIn K (.ref a__law_spoilt) = true)
    (a1_law : PySem.W.nsIn K mainGlobals "law" = some (some (.ref a_law)))
    (l_law : K.lookup a_law = some ⟨oc_law, od_law, .func (PySem.W.fnOf "law" "law" (defArgs s_law) (defBody s_law) (defScope s_law) .none kV_law dc_law pm_law an_law cd_law ct_law), sl_law⟩)
    (c_law : PySem.W.codeIn K cd_law "law" = true)
    (k_law : PySem.W.keepIn K (.ref a_law) = true)
    : ∃ fd : FuncData, (∀ (s : Shared) (v : Value), BindsTo s fd ⟨[v], []⟩ [("_law_script", v)]) ∧ ∀ base : Heap, K.In base → base.Ns mainGlobals mg → FnOk l.prog w K mg base CX0 8 fa fd ["_law_script"] (spLaw K) := by
  have e := hfa.symm.trans (PySem.W.mg_of X G a1_law)
  cases e
  have F_is_below := fun_mk (st := s_is_below) l_is_below c_is_below k_is_below
  have b_is_below := F_is_below.binds (ps := ["value", "limit"]) fun _ _ _ _ _ _ us hl => match us, hl with | [_, _], _ => rfl
  have F_are_below := fun_mk (st := s_are_below) l_are_below c_are_below k_are_below
  have b_are_below := F_are_below.binds (ps := ["values", "limit"]) fun _ _ _ _ _ _ us hl => match us, hl with | [_, _], _ => rfl
  have F_BadSteps_init : FunS l.prog K mg C_BadSteps "__init__" "BadSteps.__init__" s_BadSteps_init a_BadSteps_init _ := ⟨_, _, _, _, _, _, cda_BadSteps_init, cc_BadSteps_init, _, _, rfl, l_BadSteps_init, c_BadSteps_init, ⟨⟨_, _, _, _, _, _, s1_BadSteps_init, s2_BadSteps_init, s3_BadSteps_init⟩, ⟨_, _, _, s4_BadSteps_init⟩, ⟨_, s5_BadSteps_init⟩, s6_BadSteps_init, PySem.W.mg_none_of X G s7_BadSteps_init, s8_BadSteps_init, s9_BadSteps_init, s10_BadSteps_init, s11_BadSteps_init, ⟨⟨_, _, _, _, _, _, _, _, _, _, _, _, _, _, _, x1_BadSteps, x2_BadSteps⟩, x3_BadSteps, r_BadSteps, t_BadSteps, k_BadSteps⟩⟩⟩
  have b_BadSteps_init := F_BadSteps_init.binds (ps := ["self", "index"]) fun _ _ _ _ _ _ _ us hl => match us, hl with | [_, _], _ => rfl
  have F_told := fun_mk (st := s_told) l_told c_told k_told
  have b_told := F_told.binds (ps := ["index"]) fun _ _ _ _ _ _ us hl => match us, hl with | [_], _ => rfl
  have F_Machine_init := fun_mk (st := s_Machine_init) l_Machine_init c_Machine_init k_Machine_init
  have b_Machine_init := F_Machine_init.binds (ps := ["self", "steps", "good"]) fun _ _ _ _ _ _ us hl => match us, hl with | [_, _, _], _ => rfl
  have F_Machine_steps := fun_mk (st := s_Machine_steps) l_Machine_steps c_Machine_steps k_Machine_steps
  have b_Machine_steps := F_Machine_steps.binds (ps := ["self"]) fun _ _ _ _ _ _ us hl => match us, hl with | [_], _ => rfl
  have F_Machine_good := fun_mk (st := s_Machine_good) l_Machine_good c_Machine_good k_Machine_good
  have b_Machine_good := F_Machine_good.binds (ps := ["self"]) fun _ _ _ _ _ _ us hl => match us, hl with | [_], _ => rfl
  have F_Machine_len := fun_mk (st := s_Machine_len) l_Machine_len c_Machine_len k_Machine_len
  have b_Machine_len := F_Machine_len.binds (ps := ["self"]) fun _ _ _ _ _ _ us hl => match us, hl with | [_], _ => rfl
  have F_Machine_eq := fun_mk (st := s_Machine_eq) l_Machine_eq c_Machine_eq k_Machine_eq
  have b_Machine_eq := F_Machine_eq.binds (ps := ["self", "other"]) fun _ _ _ _ _ _ us hl => match us, hl with | [_, _], _ => rfl
  have F_check_steps := fun_mk (st := s_check_steps) l_check_steps c_check_steps k_check_steps
  have b_check_steps := F_check_steps.binds (ps := ["steps"]) fun _ _ _ _ _ _ us hl => match us, hl with | [_], _ => rfl
  have F_are_leads := fun_mk (st := s_are_leads) l_are_leads c_are_leads k_are_leads
  have b_are_leads := F_are_leads.binds (ps := ["leads", "stands"]) fun _ _ _ _ _ _ us hl => match us, hl with | [_, _], _ => rfl
  have F_check_good := fun_mk (st := s_check_good) l_check_good c_check_good k_check_good
  have b_check_good := F_check_good.binds (ps := ["good", "stands"]) fun _ _ _ _ _ _ us hl => match us, hl with | [_, _], _ => rfl
  have F__law_mix := fun_mk (st := s__law_mix) l__law_mix c__law_mix k__law_mix
  have b__law_mix := F__law_mix.binds (ps := ["_law_script", "_law_seed"]) fun _ _ _ _ _ _ us hl => match us, hl with | [_, _], _ => rfl
  have F__law_next := fun_mk (st := s__law_next) l__law_next c__law_next k__law_next
  have b__law_next := F__law_next.binds (ps := ["_law_h", "_law_cap"]) fun _ _ _ _ _ _ us hl => match us, hl with | [_, _], _ => rfl
  have F__law_alike := fun_mk (st := s__law_alike) l__law_alike c__law_alike k__law_alike
  have b__law_alike := F__law_alike.binds (ps := ["_law_found", "_law_due"]) fun _ _ _ _ _ _ us hl => match us, hl with | [_, _], _ => rfl
  have F__law_pick := fun_mk (st := s__law_pick) l__law_pick c__law_pick k__law_pick
  have b__law_pick := F__law_pick.binds (ps := ["_law_h", "_law_things"]) fun _ _ _ _ _ _ us hl => match us, hl with | [_, _], _ => rfl
  have F__law_parts := fun_mk (st := s__law_parts) l__law_parts c__law_parts k__law_parts
  have b__law_parts := F__law_parts.binds (ps := ["_law_h", "_law_letters"]) fun _ _ _ _ _ _ us hl => match us, hl with | [_, _], _ => rfl
  have F__law_stand := fun_mk (st := s__law_stand) l__law_stand c__law_stand k__law_stand
  have b__law_stand := F__law_stand.binds (ps := ["_law_thing", "_law_many"]) fun _ _ _ _ _ _ us hl => match us, hl with | [_, _], _ => rfl
  have F__law_fault := fun_mk (st := s__law_fault) l__law_fault c__law_fault k__law_fault
  have b__law_fault := F__law_fault.binds (ps := ["_law_steps", "_law_good"]) fun _ _ _ _ _ _ us hl => match us, hl with | [_, _], _ => rfl
  have F__law_tried := fun_mk (st := s__law_tried) l__law_tried c__law_tried k__law_tried
  have b__law_tried := F__law_tried.binds (ps := ["_law_steps", "_law_good"]) fun _ _ _ _ _ _ us hl => match us, hl with | [_, _], _ => rfl
  have F__law_spoilt := fun_mk (st := s__law_spoilt) l__law_spoilt c__law_spoilt k__law_spoilt
  have b__law_spoilt := F__law_spoilt.binds (ps := ["_law_h", "_law_steps"]) fun _ _ _ _ _ _ us hl => match us, hl with | [_, _], _ => rfl
  have F_law := fun_mk (st := s_law) l_law c_law k_law
  have b_law := F_law.binds (ps := ["_law_script"]) fun _ _ _ _ _ _ us hl => match us, hl with | [_], _ => rfl
  let T : TxtP l.prog K mg := {
    z_all := PySem.W.mg_none_of X G z_all,
    z_bool := PySem.W.mg_none_of X G z_bool,
    z_enumerate := PySem.W.mg_none_of X G z_enumerate,
    z_int := PySem.W.mg_none_of X G z_int,
    z_isinstance := PySem.W.mg_none_of X G z_isinstance,
    z_len := PySem.W.mg_none_of X G z_len,
    z_list := PySem.W.mg_none_of X G z_list,
    z_max := PySem.W.mg_none_of X G z_max,
    z_min := PySem.W.mg_none_of X G z_min,
    z_range := PySem.W.mg_none_of X G z_range,
    z_str := PySem.W.mg_none_of X G z_str,
    z_super := PySem.W.mg_none_of X G z_super,
    z_tuple := PySem.W.mg_none_of X G z_tuple,
    z_zip := PySem.W.mg_none_of X G z_zip,
    t_MOST_STANDS := t_MOST_STANDS, g_MOST_STANDS := PySem.W.mg_of X G g_MOST_STANDS,
    t_MOST_LETTERS := t_MOST_LETTERS, g_MOST_LETTERS := PySem.W.mg_of X G g_MOST_LETTERS,
    C_MachineError := C_MachineError, g_MachineError := PySem.W.mg_of X G g_MachineError, k_MachineError := k_MachineError, r_MachineError := r_MachineError, t_MachineError := t_MachineError, ic_MachineError := ic_MachineError,
    e_MachineError := ⟨e1_MachineError, e2_MachineError, r_MachineError, e4_MachineError, e5_MachineError, hnX, htX, e8_MachineError⟩,
    C_BadSteps := C_BadSteps, g_BadSteps := PySem.W.mg_of X G g_BadSteps, k_BadSteps := k_BadSteps, r_BadSteps := r_BadSteps, t_BadSteps := t_BadSteps, ic_BadSteps := ic_BadSteps,
    e_BadSteps := ⟨e1_BadSteps, e2_BadSteps, r_BadSteps, e4_BadSteps, e5_BadSteps, hnX, htX, e8_BadSteps⟩,
    x_BadSteps := ⟨⟨_, _, _, _, _, _, _, _, _, _, _, _, _, _, _, x1_BadSteps, x2_BadSteps⟩, x3_BadSteps, r_BadSteps, t_BadSteps, k_BadSteps⟩, f_BadSteps := ⟨e1_BadSteps, e2_BadSteps, r_BadSteps, e4_BadSteps⟩,
    n_BadSteps_index := n_BadSteps_index,
    C_BadGood := C_BadGood, g_BadGood := PySem.W.mg_of X G g_BadGood, k_BadGood := k_BadGood, r_BadGood := r_BadGood, t_BadGood := t_BadGood, ic_BadGood := ic_BadGood,
    e_BadGood := ⟨e1_BadGood, e2_BadGood, r_BadGood, e4_BadGood, e5_BadGood, hnX, htX, e8_BadGood⟩,
    q_BadGood := q_BadGood,
    C_Machine := C_Machine, c_Machine := ⟨pg_Machine, hd_Machine, po_Machine, sa_Machine⟩, g_Machine := PySem.W.mg_of X G g_Machine,
    n_Machine__steps := n_Machine__steps,
    n_Machine__good := n_Machine__good,
    t_Machine := t_Machine,
    ic_Machine := ic_Machine,
    ca_Machine := ca_Machine,
    cn_Machine := cn_Machine,
    ct_Machine := ct_Machine,
    cm_Machine := cm_Machine,
    sb_BadSteps_MachineError := sb_BadSteps_MachineError,
    sb_BadGood_MachineError := sb_BadGood_MachineError,
    sb_BadSteps_BadSteps := sb_BadSteps_BadSteps,
    sb_BadGood_BadSteps := sb_BadGood_BadSteps,
    sb_BadGood_BadGood := sb_BadGood_BadGood,
    sb_Machine_Machine := sb_Machine_Machine,
    sb_list_Machine := sb_list_Machine,
    sb_NoneType_Machine := sb_NoneType_Machine,
    sb_tuple_Machine := sb_tuple_Machine,
    a_is_below := a_is_below, fd_is_below := _, F_is_below := F_is_below, b_is_below := b_is_below,
    g_is_below := PySem.W.mg_of X G a1_is_below,
    a_are_below := a_are_below, fd_are_below := _, F_are_below := F_are_below, b_are_below := b_are_below,
    g_are_below := PySem.W.mg_of X G a1_are_below,
    a_BadSteps_init := a_BadSteps_init, fd_BadSteps_init := _, F_BadSteps_init := F_BadSteps_init, b_BadSteps_init := b_BadSteps_init, i_BadSteps := a1_BadSteps_init, t_BadSteps_init := ty_BadSteps_init,
    a_told := a_told, fd_told := _, F_told := F_told, b_told := b_told,
    g_told := PySem.W.mg_of X G a1_told,
    a_Machine_init := a_Machine_init, fd_Machine_init := _, F_Machine_init := F_Machine_init, b_Machine_init := b_Machine_init,
    m_Machine := ⟨mk_Machine, a1_Machine_init, i_Machine_init, kc_Machine⟩,
    a_Machine_steps := a_Machine_steps, fd_Machine_steps := _, F_Machine_steps := F_Machine_steps, b_Machine_steps := b_Machine_steps,
    pa_Machine_steps := pa_Machine_steps, p_Machine_steps := ⟨a1_Machine_steps, a2_Machine_steps, a3_Machine_steps, _, a4_Machine_steps⟩,
    a_Machine_good := a_Machine_good, fd_Machine_good := _, F_Machine_good := F_Machine_good, b_Machine_good := b_Machine_good,
    pa_Machine_good := pa_Machine_good, p_Machine_good := ⟨a1_Machine_good, a2_Machine_good, a3_Machine_good, _, a4_Machine_good⟩,
    a_Machine_len := a_Machine_len, fd_Machine_len := _, F_Machine_len := F_Machine_len, b_Machine_len := b_Machine_len,
    m_Machine_len := ⟨a1_Machine_len, i_Machine_len, k_Machine_len⟩,
    a_Machine_eq := a_Machine_eq, fd_Machine_eq := _, F_Machine_eq := F_Machine_eq, b_Machine_eq := b_Machine_eq,
    m_Machine_eq := ⟨a1_Machine_eq, i_Machine_eq, k_Machine_eq⟩,
    a_check_steps := a_check_steps, fd_check_steps := _, F_check_steps := F_check_steps, b_check_steps := b_check_steps,
    g_check_steps := PySem.W.mg_of X G a1_check_steps,
    a_are_leads := a_are_leads, fd_are_leads := _, F_are_leads := F_are_leads, b_are_leads := b_are_leads,
    g_are_leads := PySem.W.mg_of X G a1_are_leads,
    a_check_good := a_check_good, fd_check_good := _, F_check_good := F_check_good, b_check_good := b_check_good,
    g_check_good := PySem.W.mg_of X G a1_check_good,
    a__law_mix := a__law_mix, fd__law_mix := _, F__law_mix := F__law_mix, b__law_mix := b__law_mix,
    g__law_mix := PySem.W.mg_of X G a1__law_mix,
    a__law_next := a__law_next, fd__law_next := _, F__law_next := F__law_next, b__law_next := b__law_next,
    g__law_next := PySem.W.mg_of X G a1__law_next,
    a__law_alike := a__law_alike, fd__law_alike := _, F__law_alike := F__law_alike, b__law_alike := b__law_alike,
    g__law_alike := PySem.W.mg_of X G a1__law_alike,
    a__law_pick := a__law_pick, fd__law_pick := _, F__law_pick := F__law_pick, b__law_pick := b__law_pick,
    g__law_pick := PySem.W.mg_of X G a1__law_pick,
    a__law_parts := a__law_parts, fd__law_parts := _, F__law_parts := F__law_parts, b__law_parts := b__law_parts,
    g__law_parts := PySem.W.mg_of X G a1__law_parts,
    a__law_stand := a__law_stand, fd__law_stand := _, F__law_stand := F__law_stand, b__law_stand := b__law_stand,
    g__law_stand := PySem.W.mg_of X G a1__law_stand,
    a__law_fault := a__law_fault, fd__law_fault := _, F__law_fault := F__law_fault, b__law_fault := b__law_fault,
    g__law_fault := PySem.W.mg_of X G a1__law_fault,
    a__law_tried := a__law_tried, fd__law_tried := _, F__law_tried := F__law_tried, b__law_tried := b__law_tried,
    g__law_tried := PySem.W.mg_of X G a1__law_tried,
    a__law_spoilt := a__law_spoilt, fd__law_spoilt := _, F__law_spoilt := F__law_spoilt, b__law_spoilt := b__law_spoilt,
    g__law_spoilt := PySem.W.mg_of X G a1__law_spoilt,
    a_law := fa, fd_law := _, F_law := F_law, b_law := b_law,
    g_law := PySem.W.mg_of X G a1_law }
  exact ⟨T.fd_law, fun s v => .of_eq rfl, fun base _ _ => ok_law T⟩
end BF
open PySem PySem.W PyProof.Rows
set_option maxRecDepth 100000 in
set_option maxHeartbeats 0 in
theorem PySem.Challenge.cw_butfewrows_k01_machines_refused_holds : PySem.Challenge.rw_butfewrows_k01_machines_refused.Holds := by
  w_on; o_law; k_head; (case hw => w_witness2)
  k_fill
  refine L2.walk_of (l := PySem.Challenge.rw_butfewrows_k01_machines_refused) (n := 63) (k := 8) (x := "_law_script") (CX := fun _ => L2.CX0) (sp := fun w => BF.spLaw _) rfl (by decide) rfl ⟨rfl, by decide, by decide⟩ (fun w h Y => PySem.W.kIn_of Y) ?F (fun _ _ a ns hl hb hS => ⟨a, ns, rfl, hS, hl, fun _ => rfl⟩) (fun _ _ _ _ _ h => h)
  case F =>
    intro w mg fa h KX G hmg
    refine' BF.all_mk KX G hmg ?z_all ?z_bool ?z_enumerate ?z_int ?z_isinstance ?z_len ?z_list ?z_max ?z_min ?z_range ?z_str ?z_super ?z_tuple ?z_zip ?g_MOST_STANDS ?g_MOST_LETTERS ?hnX ?htX ?g_MachineError ?k_MachineError ?r_MachineError ?t_MachineError ?ic_MachineError ?e1_MachineError ?e2_MachineError ?e4_MachineError ?e5_MachineError ?e8_MachineError ?g_BadSteps ?k_BadSteps ?r_BadSteps ?t_BadSteps ?ic_BadSteps ?e1_BadSteps ?e2_BadSteps ?e4_BadSteps ?e5_BadSteps ?e8_BadSteps ?x1_BadSteps ?x2_BadSteps ?x3_BadSteps ?n_BadSteps_index ?g_BadGood ?k_BadGood ?r_BadGood ?t_BadGood ?ic_BadGood ?e1_BadGood ?e2_BadGood ?e4_BadGood ?e5_BadGood ?e8_BadGood ?q_BadGood ?g_Machine ?pg_Machine ?hd_Machine ?po_Machine ?sa_Machine ?mk_Machine ?kc_Machine ?n_Machine__steps ?n_Machine__good ?t_Machine ?ic_Machine ?ca_Machine ?cn_Machine ?ct_Machine ?cm_Machine ?sb_BadSteps_MachineError ?sb_BadGood_MachineError ?sb_BadSteps_BadSteps ?sb_BadGood_BadSteps ?sb_BadGood_BadGood ?sb_Machine_Machine ?sb_list_Machine ?sb_NoneType_Machine ?sb_tuple_Machine ?a1_is_below ?l_is_below ?c_is_below ?k_is_below ?a1_are_below ?l_are_below ?c_are_below ?k_are_below ?a1_BadSteps_init ?ty_BadSteps_init ?l_BadSteps_init ?c_BadSteps_init ?s1_BadSteps_init ?s2_BadSteps_init ?s3_BadSteps_init ?s4_BadSteps_init ?s5_BadSteps_init ?s6_BadSteps_init ?s7_BadSteps_init ?s8_BadSteps_init ?s9_BadSteps_init ?s10_BadSteps_init ?s11_BadSteps_init ?a1_told ?l_told ?c_told ?k_told ?a1_Machine_init ?i_Machine_init ?l_Machine_init ?c_Machine_init ?k_Machine_init ?a1_Machine_steps ?a2_Machine_steps ?a3_Machine_steps ?a4_Machine_steps ?l_Machine_steps ?c_Machine_steps ?k_Machine_steps ?a1_Machine_good ?a2_Machine_good ?a3_Machine_good ?a4_Machine_good ?l_Machine_good ?c_Machine_good ?k_Machine_good ?a1_Machine_len ?i_Machine_len ?l_Machine_len ?c_Machine_len ?k_Machine_len ?a1_Machine_eq ?i_Machine_eq ?l_Machine_eq ?c_Machine_eq ?k_Machine_eq ?a1_check_steps ?l_check_steps ?c_check_steps ?k_check_steps ?a1_are_leads ?l_are_leads ?c_are_leads ?k_are_leads ?a1_check_good ?l_check_good ?c_check_good ?k_check_good ?a1__law_mix ?l__law_mix ?c__law_mix ?k__law_mix ?a1__law_next ?l__law_next ?c__law_next ?k__law_next ?a1__law_alike ?l__law_alike ?c__law_alike ?k__law_alike ?a1__law_pick ?l__law_pick ?c__law_pick ?k__law_pick ?a1__law_parts ?l__law_parts ?c__law_parts ?k__law_parts ?a1__law_stand ?l__law_stand ?c__law_stand ?k__law_stand ?a1__law_fault ?l__law_fault ?c__law_fault ?k__law_fault ?a1__law_tried ?l__law_tried ?c__law_tried ?k__law_tried ?a1__law_spoilt ?l__law_spoilt ?c__law_spoilt ?k__law_spoilt ?a1_law ?l_law ?c_law ?k_law
    (case z_all => k_is)
    (case z_bool => k_is)
    (case z_enumerate => k_is)
    (case z_int => k_is)
    (case z_isinstance => k_is)
    (case z_len => k_is)
    (case z_list => k_is)
    (case z_max => k_is)
    (case z_min => k_is)
    (case z_range => k_is)
    (case z_str => k_is)
    (case z_super => k_is)
    (case z_tuple => k_is)
    (case z_zip => k_is)
    (case g_MOST_STANDS => k_is)
    (case g_MOST_LETTERS => k_is)
    (case hnX => k_is)
    (case htX => k_is)
    (case g_MachineError => k_is)
    (case k_MachineError => k_is)
    (case r_MachineError => k_is)
    (case t_MachineError => k_is)
    (case ic_MachineError => k_is)
    (case e1_MachineError => k_is)
    (case e2_MachineError => k_is)
    (case e4_MachineError => k_is)
    (case e5_MachineError => k_is)
    (case e8_MachineError => k_is)
    (case g_BadSteps => k_is)
    (case k_BadSteps => k_is)
    (case r_BadSteps => k_is)
    (case t_BadSteps => k_is)
    (case ic_BadSteps => k_is)
    (case e1_BadSteps => k_is)
    (case e2_BadSteps => k_is)
    (case e4_BadSteps => k_is)
    (case e5_BadSteps => k_is)
    (case e8_BadSteps => k_is)
    (case x1_BadSteps => k_is)
    (case x2_BadSteps => decide +kernel)
    (case x3_BadSteps => k_is)
    (case n_BadSteps_index => k_is)
    (case g_BadGood => k_is)
    (case k_BadGood => k_is)
    (case r_BadGood => k_is)
    (case t_BadGood => k_is)
    (case ic_BadGood => k_is)
    (case e1_BadGood => k_is)
    (case e2_BadGood => k_is)
    (case e4_BadGood => k_is)
    (case e5_BadGood => k_is)
    (case e8_BadGood => k_is)
    (case q_BadGood => k_exc)
    (case g_Machine => k_is)
    (case pg_Machine => k_is)
    (case hd_Machine => k_is)
    (case po_Machine => k_is)
    (case sa_Machine => k_is)
    (case mk_Machine => k_is)
    (case kc_Machine => k_is)
    (case n_Machine__steps => k_is)
    (case n_Machine__good => k_is)
    (case t_Machine => first | rfl | k_is)
    (case ic_Machine => first | rfl | k_is)
    (case ca_Machine => first | rfl | k_is)
    (case cn_Machine => first | rfl | k_is)
    (case ct_Machine => first | rfl | k_is)
    (case cm_Machine => first | rfl | k_is)
    (case sb_BadSteps_MachineError => first | rfl | k_is)
    (case sb_BadGood_MachineError => first | rfl | k_is)
    (case sb_BadSteps_BadSteps => first | rfl | k_is)
    (case sb_BadGood_BadSteps => first | rfl | k_is)
    (case sb_BadGood_BadGood => first | rfl | k_is)
    (case sb_Machine_Machine => first | rfl | k_is)
    (case sb_list_Machine => first | rfl | k_is)
    (case sb_NoneType_Machine => first | rfl | k_is)
    (case sb_tuple_Machine => first | rfl | k_is)
    (case a1_is_below => k_is)
    (case l_is_below => k_is)
    (case c_is_below => k_is)
    (case k_is_below => k_is)
    (case a1_are_below => k_is)
    (case l_are_below => k_is)
    (case c_are_below => k_is)
    (case k_are_below => k_is)
    (case a1_BadSteps_init => k_is)
    (case ty_BadSteps_init => k_is)
    (case l_BadSteps_init => k_is)
    (case c_BadSteps_init => k_is)
    (case s1_BadSteps_init => k_is)
    (case s2_BadSteps_init => rfl)
    (case s3_BadSteps_init => first | rfl | decide +kernel)
    (case s4_BadSteps_init => k_is)
    (case s5_BadSteps_init => k_is)
    (case s6_BadSteps_init => k_is)
    (case s7_BadSteps_init => k_is)
    (case s8_BadSteps_init => first | rfl | decide +kernel)
    (case s9_BadSteps_init => k_is)
    (case s10_BadSteps_init => first | ks_is | k_is)
    (case s11_BadSteps_init => k_is)
    (case a1_told => k_is)
    (case l_told => k_is)
    (case c_told => k_is)
    (case k_told => k_is)
    (case a1_Machine_init => k_is)
    (case i_Machine_init => k_is)
    (case l_Machine_init => k_is)
    (case c_Machine_init => k_is)
    (case k_Machine_init => k_is)
    (case a1_Machine_steps => k_is)
    (case a2_Machine_steps => k_is)
    (case a3_Machine_steps => k_is)
    (case a4_Machine_steps => k_is)
    (case l_Machine_steps => k_is)
    (case c_Machine_steps => k_is)
    (case k_Machine_steps => k_is)
    (case a1_Machine_good => k_is)
    (case a2_Machine_good => k_is)
    (case a3_Machine_good => k_is)
    (case a4_Machine_good => k_is)
    (case l_Machine_good => k_is)
    (case c_Machine_good => k_is)
    (case k_Machine_good => k_is)
    (case a1_Machine_len => k_is)
    (case i_Machine_len => k_is)
    (case l_Machine_len => k_is)
    (case c_Machine_len => k_is)
    (case k_Machine_len => k_is)
    (case a1_Machine_eq => k_is)
    (case i_Machine_eq => k_is)
    (case l_Machine_eq => k_is)
    (case c_Machine_eq => k_is)
    (case k_Machine_eq => k_is)
    (case a1_check_steps => k_is)
    (case l_check_steps => k_is)
    (case c_check_steps => k_is)
    (case k_check_steps => k_is)
    (case a1_are_leads => k_is)
    (case l_are_leads => k_is)
    (case c_are_leads => k_is)
    (case k_are_leads => k_is)
    (case a1_check_good => k_is)
    (case l_check_good => k_is)
    (case c_check_good => k_is)
    (case k_check_good => k_is)
    (case a1__law_mix => k_is)
    (case l__law_mix => k_is)
    (case c__law_mix => k_is)
    (case k__law_mix => k_is)
    (case a1__law_next => k_is)
    (case l__law_next => k_is)
    (case c__law_next => k_is)
    (case k__law_next => k_is)
    (case a1__law_alike => k_is)
    (case l__law_alike => k_is)
    (case c__law_alike => k_is)
    (case k__law_alike => k_is)
    (case a1__law_pick => k_is)
    (case l__law_pick => k_is)
    (case c__law_pick => k_is)
    (case k__law_pick => k_is)
    (case a1__law_parts => k_is)
    (case l__law_parts => k_is)
    (case c__law_parts => k_is)
    (case k__law_parts => k_is)
    (case a1__law_stand => k_is)
    (case l__law_stand => k_is)
    (case c__law_stand => k_is)
    (case k__law_stand => k_is)
    (case a1__law_fault => k_is)
    (case l__law_fault => k_is)
    (case c__law_fault => k_is)
    (case k__law_fault => k_is)
    (case a1__law_tried => k_is)
    (case l__law_tried => k_is)
    (case c__law_tried => k_is)
    (case k__law_tried => k_is)
    (case a1__law_spoilt => k_is)
    (case l__law_spoilt => k_is)
    (case c__law_spoilt => k_is)
    (case k__law_spoilt => k_is)
    (case a1_law => k_is)
    (case l_law => k_is)
    (case c_law => k_is)
    (case k_law => k_is)

