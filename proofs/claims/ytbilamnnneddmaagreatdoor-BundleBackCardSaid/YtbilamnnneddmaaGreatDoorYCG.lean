import Derived.Test.YtbilamnnneddmaaGreatDoorYCBx
import Derived.LoopN
import Derived.LoopTactic
