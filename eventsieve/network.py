"""The features of an event and the network that scores them."""

FEATURES_PER_KIND = 4
FEATURES = 32
HIDDEN = 16
GREATEST = 255


class Network:
    def __init__(self, shift, mul, down, b2, b1, w1, w2):
        self.shift = shift
        self.mul = mul
        self.down = down
        self.b2 = b2
        self.b1 = b1
        self.w1 = w1
        self.w2 = w2

    def features_of(self, ranked):
        found = []
        for ranking in ranked:
            for place in range(FEATURES_PER_KIND):
                value = ranking[place] if place < len(ranking) else 0
                found.append(min(GREATEST, value >> self.shift))
        return found

    # A shift to the right rounds down for negative numbers too.
    def hidden_of(self, features, unit):
        total = self.b1[unit]
        for place, feature in enumerate(features):
            total += feature * self.w1[FEATURES * unit + place]
        scaled = (total * self.mul) >> self.down
        return max(0, min(GREATEST, scaled))

    def score_of(self, ranked):
        features = self.features_of(ranked)
        total = self.b2
        for unit in range(HIDDEN):
            total += self.hidden_of(features, unit) * self.w2[unit]
        return total


def fresh_network():
    return Network(0, 1, 0, 0, [0] * HIDDEN, [0] * (FEATURES * HIDDEN), [0] * HIDDEN)
