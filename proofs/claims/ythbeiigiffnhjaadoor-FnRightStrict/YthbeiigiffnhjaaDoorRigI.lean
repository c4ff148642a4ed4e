/-
  The program's rights: all contracts.
-/
import Derived.Test.YthbeiigiffnhjaaDoorRigK
import Derived.Test.YthbeiigiffnhjaaDoorRigM
import Derived.Test.YthbeiigiffnhjaaDoorRigW
import Derived.Test.YthbeiigiffnhjaaDoorRigP
