"""Layers: how a panel of a sheet lies, and the faces that it shows (points 23 and 24)."""


def turn_layer(layer, axis):
    """Return a layer that has been turned about an axis, or about both."""
    sheet, row, column, is_mirrored, is_turned = layer
    if axis != "horizontal":
        is_mirrored = not is_mirrored
    if axis != "vertical":
        is_turned = not is_turned
    return (sheet, row, column, is_mirrored, is_turned)


def top_face(layer, columns):
    """Return the upper face of a layer of a sheet with so many columns."""
    sheet, row, column, is_mirrored, is_turned = layer
    if is_mirrored == is_turned:
        return (sheet, "front", row, column, is_turned)
    return (sheet, "back", row, columns - 1 - column, is_turned)


def bottom_face(layer, columns):
    """Return the lower face of a layer, as it is seen when the layer is turned like a leaf."""
    return top_face(turn_layer(layer, "vertical"), columns)
