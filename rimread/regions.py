"""Regions: the parts of the plate that no wire crosses."""

from rimread.plate import corners_behind, corners_in_order


def round_from(corner, behind):
    region = [corner]
    while behind[region[-1]] != corner:
        region.append(behind[region[-1]])
    return region


def regions_of(net):
    behind = corners_behind(net)
    told = {}
    regions = []
    for corner in corners_in_order(net):
        if corner not in told:
            region = round_from(corner, behind)
            told.update([(member, True) for member in region])
            regions.append(region)
    return regions
