"""What can be reached from a list of names by doing recipes.

A bag is the tuple of its names, sorted, each as often as it stands there.
"""

LONGEST_COURSE = 6
MOST_BAGS = 300
MOST_IN_BAG = 20


def bag_of(names):
    return tuple(sorted(names))


# None stands for a recipe that cannot be done.
def bag_behind(bag, recipe):
    left = list(bag)
    for name in recipe.takes:
        if name not in left:
            return None
        left.remove(name)
    return bag_of(left + recipe.gives)


def bags_behind(bag, recipes):
    return [bag_behind(bag, recipe) for recipe in recipes]


# For each bag that can be reached the first course that leads to it; None if these bags
# are too many or one is too great. They are gone through in the order of their first
# courses, so the course by which one is found is its first one.
def first_courses(names, recipes):
    courses = {bag_of(names): []}
    found = list(courses)
    at = 0
    while at < len(found) and len(courses[found[at]]) < LONGEST_COURSE:
        bag = found[at]
        for number, behind in enumerate(bags_behind(bag, recipes)):
            if behind is None or behind in courses:
                continue
            if len(courses) == MOST_BAGS or len(behind) > MOST_IN_BAG:
                return None
            courses[behind] = courses[bag] + [number]
            found.append(behind)
        at += 1
    return courses
