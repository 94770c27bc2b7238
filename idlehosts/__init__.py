"""What one of many hosts finds out about all of them: idlehosts.host.answers is the way in."""
