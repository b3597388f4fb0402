"""Items and books.

An item is a tuple: form, version, 1 if withdrawn (else 0), what it tells.
A book is a dict that has by a form's number the one item of this form.
"""


def make_item(form, version, withdrawn, tells):
    """Give back the item; a withdrawn one tells 0, whatever was told."""
    if withdrawn == 1:
        return (form, version, 1, 0)
    return (form, version, 0, tells)


def is_greater(item, other):
    """Say whether item is greater than other, an item of the same form."""
    # Behind the form stand version, withdrawn, tells: as they count, so tuples compare as items do.
    return item > other


def bring_into(book, coming):
    """Let the coming items come into the book: of each form the greatest stands."""
    for item in coming:
        form = item[0]
        if form not in book or is_greater(item, book[form]):
            book[form] = item


def items_of(book):
    """Give back the book's items by their forms' numbers, ascending."""
    return [book[form] for form in sorted(book)]


def news_for(book, other):
    """Give back the items of book of forms of which the other book has nothing or a lesser one."""
    news = []
    for item in items_of(book):
        form = item[0]
        if form not in other or is_greater(item, other[form]):
            news.append(item)
    return news


def numbers_of(told):
    """Give back the items as numbers, four for each."""
    numbers = []
    for item in told:
        numbers.extend(item)
    return numbers
