"""What moves when a device of a full set is released while the input is at rest."""

from planetbox.boxes import is_number_of, require_other_shaft, require_engaged
from planetbox.errors import InvalidDevice
from planetbox.full import require_full, without_device
from planetbox.kinds import motion_at_rest
from planetbox.motions import active_leads
from planetbox.rows import made_positive


def known_freed_motion(box, engaged, device):
    """Return the freed motion of what is known to be a device of a full set."""
    leads = active_leads(box, without_device(engaged, device))
    speeds = motion_at_rest(box, leads)
    first_moving = min([shaft for shaft in range(box[0]) if speeds[shaft] != 0])
    return tuple(made_positive(speeds, first_moving))


def freed_motion(box, engaged, device):
    """Return the freed motion of a device in a full set."""
    require_engaged(box, engaged)
    require_full(box, engaged)
    if not is_number_of(device, len(box[2])) or device not in engaged:
        raise InvalidDevice(device)
    return known_freed_motion(box, engaged, device)


def loads(box, engaged, shaft):
    """Return the ascending list of the devices of a full set that carry load from a shaft."""
    require_engaged(box, engaged)
    require_full(box, engaged)
    require_other_shaft(box, shaft)
    return [device for device in engaged if known_freed_motion(box, engaged, device)[shaft] != 0]
