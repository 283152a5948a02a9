"""Parcels put together again of the boxes that are told of a belt."""


class Hands:
    def __init__(self):
        self.due = {}
        self.numbers = {}
        self.news = []

    def hold(self, sender, numbers, due):
        self.numbers[sender] = numbers
        self.due[sender] = due

    def let_go(self, sender):
        self.due.pop(sender)
        return self.numbers.pop(sender)

    def lose(self, sender, start):
        if sender in self.due:
            self.let_go(sender)
            self.news.append(("lost", sender, start))

    def keep(self, sender, numbers, start):
        # Whether the box was kept: one that was passed over makes no parcel whole, whatever its label.
        if numbers and numbers[0] == self.due.get(sender):
            self.hold(sender, self.numbers[sender] + numbers[1:], numbers[0] + 1)
            return True
        self.lose(sender, start)
        if numbers and numbers[0] == 0:
            self.hold(sender, numbers[1:], 1)
            return True
        return False

    def take(self, label, numbers, start, place):
        sender = label // 2
        kept = self.keep(sender, numbers, start)
        if kept and label % 2 == 1:
            self.news.append(("parcel", sender, self.let_go(sender), place))


def hands_behind(told):
    hands = Hands()
    for one in told:
        if one[0] == "box":
            hands.take(one[1], one[2], one[3], one[4])
    return hands


def unpacked(told):
    return hands_behind(told).news


def waiting(told):
    return sorted(hands_behind(told).due)


def faults(told):
    return [(one[1], one[2]) for one in told if one[0] == "fault"]
