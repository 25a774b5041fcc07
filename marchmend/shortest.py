"""The shortest tests that tell some kinds of harm, and numbers of stands by which there are no shorter ones."""

from marchmend.stands import Stands, is_over, leading_from


class Search:
    # Keeps, for each stand that was come to, the shortest way to it so far.
    def __init__(self, kinds):
        self.stands = Stands(kinds)
        first = self.stands.first()
        self.numbers = {first: 0}
        self.ways = {first: []}

    def go_on_from(self, stand, most):
        number = self.numbers[stand]
        for element in leading_from(stand, most - number):
            behind = self.stands.behind(stand, element)
            reached = number + len(element[1])
            if behind not in self.numbers or self.numbers[behind] > reached:
                self.numbers[behind] = reached
                self.ways[behind] = self.ways[stand] + [element]

    def way_to_over(self, most):
        # Stands are gone on from by rising numbers, so the first that is over is reached by the fewest steps.
        # None where none is reached: then numbers has every stand that so many steps lead to.
        for number in range(most + 1):
            due = [stand for stand in self.numbers if self.numbers[stand] == number]
            for stand in due:
                if is_over(stand):
                    return self.ways[stand]
                self.go_on_from(stand, most)
        return None


def shortest(kinds, most):
    return Search(kinds).way_to_over(most)


def numbers_for(kinds, length):
    search = Search(kinds)
    if search.way_to_over(length - 1) is not None:
        return None
    return list(search.numbers.items())
