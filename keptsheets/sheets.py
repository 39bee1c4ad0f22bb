"""A page with its sheets, which a change keeps up. What is asked of it here has been found right before."""

from keptsheets.effects import PAINTED, needed_cells, number_made


class Sheet:
    """One sheet: its effect, a number for each cell, and which cells are new (fresh)."""

    def __init__(self, effect, numbers):
        self.effect = effect
        self.numbers = numbers
        self.fresh = [True for number in numbers]

    def is_painted(self):
        return self.effect[0] == PAINTED

    def fresh_cells(self):
        """The cells that are new, rising."""
        return [cell for cell in range(len(self.fresh)) if self.fresh[cell]]

    def mark_seen(self):
        """Once the sheet is looked at, none of its cells is new."""
        self.fresh = [False for number in self.numbers]


class Page:
    """The page's size and its sheets. A dict of (sheet, cell) tells what one change has changed so far."""

    def __init__(self, wide, high):
        self.begin(wide, high)

    def begin(self, wide, high):
        """A page of this size, without sheets, whatever it was."""
        self.wide = wide
        self.high = high
        self.sheets = []

    def size(self):
        return self.wide * self.high

    def has_sheet(self, k):
        return k < len(self.sheets)

    def has_cell(self, x, y):
        return x < self.wide and y < self.high

    def cell_at(self, x, y):
        return y * self.wide + x

    def cells_in_box(self, x, y, u, v):
        """The page's cells in the u columns from x on and the v rows from y on."""
        found = []
        # Cut at the page's edge first: u and v may be far greater than any page.
        for row in range(y, min(y + v, self.high)):
            for column in range(x, min(x + u, self.wide)):
                found.append(self.cell_at(column, row))
        return found

    def add_sheet(self, effect):
        """One more sheet with this effect; the answer is its number."""
        numbers = [0 for cell in range(self.size())]
        if effect[0] != PAINTED:
            numbers = [self.number_by(effect, cell) for cell in range(self.size())]
        self.sheets.append(Sheet(effect, numbers))
        return len(self.sheets) - 1

    def paint(self, k, cells, n):
        """These cells of sheet k are n; answers how many changed and how many were touched by that."""
        changed = {}
        for cell in cells:
            self.put(k, cell, n, changed)
        own = len(changed)
        return [own, self.go_on(k, changed)]

    def give_effect(self, k, effect):
        """Sheet k has this effect; answers how many of its cells changed and how many were touched by that."""
        sheet = self.sheets[k]
        sheet.effect = effect
        changed = {}
        if not sheet.is_painted():
            for cell in range(self.size()):
                self.put(k, cell, self.number_by(effect, cell), changed)
        own = len(changed)
        return [own, self.go_on(k, changed)]

    def go_on(self, k, changed):
        """Makes anew what is touched behind sheet k and answers how many cells that were."""
        touched = 0
        for behind in range(k + 1, len(self.sheets)):
            effect = self.sheets[behind].effect
            for cell in range(self.size()):
                if self.is_touched(effect, cell, changed):
                    touched += 1
                    self.put(behind, cell, self.number_by(effect, cell), changed)
        return touched

    def is_touched(self, effect, cell, changed):
        for needed in needed_cells(effect, cell, self.wide, self.high):
            if needed in changed:
                return True
        return False

    def number_by(self, effect, cell):
        """What this effect, which isn't painted, makes of the sheets as they are."""
        numbers = []
        for told, place in needed_cells(effect, cell, self.wide, self.high):
            sheet = self.sheets[told]
            numbers.append(sheet.numbers[place])
        return number_made(effect, numbers)

    def put(self, k, cell, number, changed):
        """Only another number than before counts as changed, and makes the cell new."""
        sheet = self.sheets[k]
        if sheet.numbers[cell] != number:
            sheet.numbers[cell] = number
            sheet.fresh[cell] = True
            changed[(k, cell)] = True
