/- Layer 6: all contracts of ip4. -/
import Derived.Test.YtabogdpjjclapaaIpg
