"""Plans in another order of their uses, where the units that the uses gave have other numbers."""

from goodsplans.workshop import Use


# A new order, made use by use. Uses are told by their places in the plan as it was, and
# units by their old numbers; a unit has a new number as soon as it is there.
class Order:
    def __init__(self, workshop):
        self.old_uses = workshop.uses
        self.old_units = workshop.given_units()
        self.places = []
        self.new_numbers = {}
        self.let_in(list(range(len(workshop.beginning))))

    def let_in(self, units):
        for unit in units:
            self.new_numbers[unit] = len(self.new_numbers)

    # No two uses take one unit, so what was there once is there until this use comes.
    def is_ready(self, place):
        return all([unit in self.new_numbers for unit in self.old_uses[place].units])

    def new_units(self, place):
        return [self.new_numbers[unit] for unit in self.old_uses[place].units]

    def add(self, place):
        self.places.append(place)
        self.let_in(self.old_units[place])

    def new_uses(self):
        return [Use(self.old_uses[place].recipe_number, self.new_units(place)) for place in self.places]


def are_independent(workshop, k):
    given = workshop.given_units()[k]
    return not any([unit in given for unit in workshop.uses[k + 1].units])


def exchanged_order(workshop, k):
    places = list(range(len(workshop.uses)))
    order = Order(workshop)
    for place in places[:k] + [k + 1, k] + places[k + 2:]:
        order.add(place)
    return order


def told_order(workshop):
    left = list(range(len(workshop.uses)))
    order = Order(workshop)
    while len(left) > 0:
        ready = [place for place in left if order.is_ready(place)]
        first = min(ready, key=order.new_units)
        left.remove(first)
        order.add(first)
    return order
