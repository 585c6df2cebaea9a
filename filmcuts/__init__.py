"""Films cut and joined: frames of sources on tracks, and the edits that change them."""
