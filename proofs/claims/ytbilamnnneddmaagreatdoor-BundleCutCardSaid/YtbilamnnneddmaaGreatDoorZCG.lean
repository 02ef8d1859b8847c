import Derived.Test.YtbilamnnneddmaaGreatDoorZCBx
import Derived.LoopN
import Derived.LoopTactic
